package sign

import (
	"crypto/hmac"
	"crypto/sha256"
	"encoding/binary"
	"encoding/hex"
	"math"
	"math/rand"
	"strings"
	"testing"

	"voxel/api"
)

// The functions below are the chapter's terms, written on the standard library.

// number is the encoding of an integer of layer 1, which is the zigzag encoding of package binary.
func number(n int) string { return string(binary.AppendVarint(nil, int64(n))) }

// numbers is the encoding of a list of integers.
func numbers(list ...int) string {
	s := number(len(list))
	for _, n := range list {
		s += number(n)
	}
	return s
}

// of is the digest of parts of layer 2, as a text.
func of(tag int, parts ...string) string {
	s := string([]byte{byte(tag)})
	for _, part := range parts {
		s += number(len(part)) + part
	}
	sum := sha256.Sum256([]byte(s))
	return string(sum[:api.DigestSize])
}

// chainValue is the value k of a chain.
func chainValue(seed string, index, chain, k int) string {
	mac := hmac.New(sha256.New, []byte(seed))
	mac.Write([]byte(numbers(index, chain)))
	value := string(mac.Sum(nil)[:api.DigestSize])
	for i := 1; i <= k; i++ {
		value = of(4, numbers(index, chain, i), value)
	}
	return value
}

// treeValue is the value n of a level of the tree.
func treeValue(seed string, level, n int) string {
	if level > 0 {
		return of(5, numbers(level, n), treeValue(seed, level-1, 2*n), treeValue(seed, level-1, 2*n+1))
	}
	all := number(35)
	for j := range 35 {
		all += chainValue(seed, n, j, 15)
	}
	return of(4, all)
}

// digitsOf are the digits of the text of a digest.
func digitsOf(d string) []int {
	var l []int
	sum := 0
	for _, b := range []byte(d) {
		l = append(l, int(b)/16, int(b)%16)
		sum += 15 - int(b)/16 + 15 - int(b)%16
	}
	return append(l, sum/256, sum/16%16, sum%16)
}

// signatureOf is the signature of a message.
func signatureOf(seed string, height, index int, message string) string {
	s := number(index)
	d := digitsOf(of(6, treeValue(seed, height, 0), number(index), message))
	for j, k := range d {
		s += chainValue(seed, index, j, k)
	}
	for l := range height {
		s += treeValue(seed, l, index>>l^1)
	}
	return s
}

// some returns digests that look as if they had been drawn by chance, always the same ones, and extreme ones.
func some(n int) []api.Digest {
	r := rand.New(rand.NewSource(int64(n)))
	list := make([]api.Digest, n)
	for i := range list {
		r.Read(list[i][:])
	}
	list = append(list, api.Digest{})
	for i := range api.DigestSize {
		for _, b := range []byte{1, 15, 16, 240, 255} {
			var low, high api.Digest
			for k := range high {
				high[k] = 255
			}
			low[i] += b
			high[i] -= b
			list = append(list, low, high)
		}
	}
	return list
}

// key is a key for tests. Its public key and its signatures are computed once.
type key struct {
	seed   string
	height int
}

func keys() []key {
	return []key{{"", 0}, {"seed", 0}, {"seed", 1}, {"other", 2}, {"seed", 3}, {strings.Repeat("\xff", 100), 4}, {"\x00", 6}}
}

func (k key) public(t *testing.T) api.Digest {
	t.Helper()
	p, e := Public(k.seed, k.height)
	if e != api.OK {
		t.Fatalf("P3.2: Public(%q, %d): error %d", k.seed, k.height, e)
	}
	return p
}

func (k key) sign(t *testing.T, index int, message string) string {
	t.Helper()
	s, e := Sign(k.seed, k.height, index, message)
	if e != api.OK {
		t.Fatalf("P3.3: Sign(%q, %d, %d): error %d", k.seed, k.height, index, e)
	}
	return s
}

// refuses checks that Verify returns an error, and no index.
func refuses(t *testing.T, what string, p api.Digest, height int, message, s string, want api.Errno) {
	t.Helper()
	if n, e := Verify(p, height, message, s); n != 0 || e != want {
		t.Errorf("%s: Verify returns %d, error %d, want error %d", what, n, e, want)
	}
}

// heightsRefused are heights that are not permitted.
var heightsRefused = []int{math.MinInt, -64, -1, 7, 8, 63, 64, 65, math.MaxInt}

func TestDigits(t *testing.T) {
	if got, want := Digits(api.Digest{}), ([Chains]int{32: 1, 33: 14}); got != want {
		t.Errorf("P3.1: the digits of zero bytes are %v", got)
	}
	if got, want := Digits(api.Digest{255, 16}), ([Chains]int{15, 15, 1, 32: 1, 33: 12, 34: 1}); got != want {
		t.Errorf("P3.1: the digits of 255, 16, 0 .. are %v", got)
	}
	for _, d := range some(1000) {
		got, want := Digits(d), digitsOf(string(d[:]))
		if got != [Chains]int(want) {
			t.Errorf("P3.1: the digits of %x are %v, want %v", d, got, want)
		}
	}
}

func TestDigitsOfDifferentDigests(t *testing.T) {
	list := some(100)
	for i, d := range list {
		for _, f := range list[:i] {
			less, greater := false, false
			other := Digits(f)
			for j, digit := range Digits(d) {
				less = less || digit < other[j]
				greater = greater || digit > other[j]
			}
			if d != f && (!less || !greater) {
				t.Errorf("P3.6: no digit of %x is less or none is greater than that of %x", d, f)
			}
		}
	}
}

func TestConstants(t *testing.T) {
	if Chains != 35 || MaxHeight != 6 {
		t.Error("the chapter states 35 chains and a height of at most 6:", Chains, MaxHeight)
	}
}

// TestKnownKeys: the values were computed by another program, written from the chapter.
func TestKnownKeys(t *testing.T) {
	long := strings.Repeat("\xff", 100)
	for _, x := range []struct {
		key
		public string
	}{
		{key{"", 0}, "5fb17dbc700362c9e82ee15ec24bc9db"},
		{key{"seed", 0}, "4f5be094ddb88f7cf9d00ab6e3c8f71c"},
		{key{"seed", 1}, "189a56038f9f3984ce12572ce49ac3f3"},
		{key{"seed", 3}, "f71cd7d778700f1ceb249388393949d2"},
		{key{long, 6}, "b7e029ca851fb3e70fa606d05dec793a"},
	} {
		if p := x.key.public(t); hex.EncodeToString(p[:]) != x.public {
			t.Errorf("P3.2: Public(%q, %d) = %x, want %s", x.seed, x.height, p, x.public)
		}
	}
	for _, x := range []struct {
		key
		index, size  int
		message, sum string
	}{
		{key{"seed", 0}, 0, 561, "message", "d0d9ac54bb267633038bc24a7d4e24de23bf4aa6a64aa82a6531fd84f08fe5b5"},
		{key{"seed", 3}, 5, 609, "", "a480b1fb8bb48a9269f78ac49c40207bb5a92e9f0702eadf60da649d8f62449a"},
		{key{long, 6}, 63, 657, "message", "6928855fc1c7c1d484b5fb1bd4a33abaf4eb94bcc02a314a2986dd8cf481af94"},
	} {
		s := x.key.sign(t, x.index, x.message)
		if sum := sha256.Sum256([]byte(s)); len(s) != x.size || hex.EncodeToString(sum[:]) != x.sum {
			t.Errorf("P3.3: the signature %q, %d, %d has %d bytes and the hash %x", x.seed, x.height, x.index, len(s), sum)
		}
	}
}

func TestPublic(t *testing.T) {
	for _, k := range keys() {
		if p := k.public(t); string(p[:]) != treeValue(k.seed, k.height, 0) {
			t.Errorf("P3.2: Public(%q, %d) = %x", k.seed, k.height, p)
		}
	}
	for _, h := range heightsRefused {
		if p, e := Public("s", h); p != (api.Digest{}) || e != api.ErrArg {
			t.Errorf("P3.2: Public of the height %d returns %x, error %d", h, p, e)
		}
	}
}

func TestCountAndSize(t *testing.T) {
	counts := []int{1, 2, 4, 8, 16, 32, 64}
	outside := []int{math.MinInt, -65, -1, 64, 65, 128, math.MaxInt}
	for h, count := range counts {
		if got := Count(h); got != count {
			t.Errorf("P3.2: Count(%d) = %d, want %d", h, got, count)
		}
		for i := range count {
			if got, want := Size(h, i), len(number(i))+16*(35+h); got != want {
				t.Errorf("P3.2: Size(%d, %d) = %d, want %d", h, i, got, want)
			}
		}
		for _, i := range append(outside, count, count+1, -count) {
			if got := Size(h, i); got != 0 {
				t.Errorf("P3.2: Size(%d, %d) = %d, want 0", h, i, got)
			}
		}
	}
	if Size(2, 3) != 593 {
		t.Error("P3.2: Size(2, 3) is", Size(2, 3))
	}
	for _, h := range heightsRefused {
		if Count(h) != 0 {
			t.Errorf("P3.2: Count(%d) = %d, want 0", h, Count(h))
		}
		for _, i := range append(outside, 0, 1) {
			if Size(h, i) != 0 {
				t.Errorf("P3.2: Size(%d, %d) = %d, want 0", h, i, Size(h, i))
			}
		}
	}
}

func TestMessage(t *testing.T) {
	for _, p := range some(3) {
		for _, index := range []int{math.MinInt, -1, 0, 1, 63, 64, 1 << 40, math.MaxInt} {
			for _, m := range []string{"", "m", "\x00\xff", strings.Repeat("long", 1000)} {
				d := Message(p, index, m)
				if string(d[:]) != of(6, string(p[:]), number(index), m) {
					t.Errorf("P3.3: Message(%x, %d, %q) = %x", p, index, m[:min(9, len(m))], d)
				}
			}
		}
	}
}

func TestSign(t *testing.T) {
	for _, k := range keys() {
		for _, index := range []int{0, Count(k.height) / 3, Count(k.height) - 1} {
			for _, m := range []string{"", "message", "\x00", strings.Repeat("long", 100)} {
				if s := k.sign(t, index, m); s != signatureOf(k.seed, k.height, index, m) {
					t.Errorf("P3.3: Sign(%q, %d, %d, %q) is not as the chapter states it", k.seed, k.height, index, m)
				}
			}
		}
		for _, index := range []int{math.MinInt, -64, -1, Count(k.height), 64, 1 << 32, math.MaxInt} {
			if s, e := Sign(k.seed, k.height, index, "m"); s != "" || e != api.ErrSpent {
				t.Errorf("P3.3: Sign(%q, %d, %d) returns %q, error %d", k.seed, k.height, index, s, e)
			}
		}
	}
	for _, h := range heightsRefused {
		for _, index := range []int{0, -1, 64} {
			if s, e := Sign("s", h, index, "m"); s != "" || e != api.ErrArg {
				t.Errorf("P3.3: Sign of the height %d, index %d returns %q, error %d", h, index, s, e)
			}
		}
	}
}

func TestVerifyAcceptsWhatSignReturns(t *testing.T) {
	for _, k := range keys() {
		p := k.public(t)
		for index := range Count(k.height) {
			m := strings.Repeat("m", index)
			if n, e := Verify(p, k.height, m, k.sign(t, index, m)); n != index || e != api.OK {
				t.Errorf("P3.5: Verify of %q, %d, %d returns %d, error %d", k.seed, k.height, index, n, e)
			}
		}
	}
	k := key{"many messages", 1}
	p := k.public(t)
	for i := range 200 {
		m := number(i)
		if n, e := Verify(p, k.height, m, k.sign(t, i%2, m)); n != i%2 || e != api.OK {
			t.Errorf("P3.5: Verify of the message %x returns %d, error %d", m, n, e)
		}
	}
}

func TestVerifyOfOtherArguments(t *testing.T) {
	for _, k := range keys() {
		p := k.public(t)
		s := k.sign(t, 0, "message")
		q := key{k.seed + "x", k.height}.public(t)
		refuses(t, "P3.4: another key", q, k.height, "message", s, api.ErrAuth)
		refuses(t, "P3.4: the zero key", api.Digest{}, k.height, "message", s, api.ErrAuth)
		for i := range p {
			changed := p
			changed[i] ^= 128
			refuses(t, "P3.4: a changed key", changed, k.height, "message", s, api.ErrAuth)
		}
		for _, m := range []string{"", "messag", "messagf", "message\x00"} {
			refuses(t, "P3.4: another message", p, k.height, m, s, api.ErrAuth)
		}
		for h := range MaxHeight + 1 {
			if h > k.height {
				refuses(t, "P3.4: a greater height", p, h, "message", s, api.ErrTruncated)
			} else if h < k.height {
				refuses(t, "P3.4: a lesser height", p, h, "message", s, api.ErrEncoding)
			}
		}
		for index := 1; index < Count(k.height); index++ {
			refuses(t, "P3.4: another index", p, k.height, "message", number(index)+s[1:], api.ErrAuth)
		}
	}
}

// TestVerifyOfChangedSignatures changes each bit of a signature, leaves out its end, and extends it.
func TestVerifyOfChangedSignatures(t *testing.T) {
	k := key{"seed", 2}
	p := k.public(t)
	s := k.sign(t, 2, "message")
	for i := range s {
		for bit := range 8 {
			b := []byte(s)
			b[i] ^= 1 << bit
			if b[0] < 128 { // otherwise the index goes on in the next byte
				refuses(t, "P3.4: a changed bit", p, k.height, "message", string(b), api.ErrAuth)
			}
		}
		refuses(t, "P3.4: a signature that ends early", p, k.height, "message", s[:i], api.ErrTruncated)
	}
	for _, more := range []string{"\x00", "a", s, strings.Repeat("\x00", 16)} {
		refuses(t, "P3.4: a signature that goes on", p, k.height, "message", s+more, api.ErrEncoding)
	}
	for i := 1; i+16 < len(s); i += 16 {
		swapped := s[:i] + s[i+16:min(i+32, len(s))] + s[i:i+16] + s[min(i+32, len(s)):]
		refuses(t, "P3.4: two values in another order", p, k.height, "message", swapped, api.ErrAuth)
	}
}

func TestOrderOfErrors(t *testing.T) {
	k := key{"seed", 2}
	p := k.public(t)
	s := k.sign(t, 1, "message")
	rest := s[1:]
	ten := strings.Repeat("\xff", 10)
	for _, h := range heightsRefused {
		for _, x := range []string{"", s, "\x80\x00", number(-1), ten, s + s} {
			refuses(t, "P3.4: a height that is not permitted", p, h, "message", x, api.ErrArg)
		}
	}
	for _, x := range []struct {
		signature string
		want      api.Errno
	}{
		{"", api.ErrTruncated},
		{"\x80", api.ErrTruncated},
		{"\xff\xff\xff\xff\xff\xff\xff\xff\xff", api.ErrTruncated},
		{"\x82\x00" + rest, api.ErrEncoding}, // the index 1 in two bytes
		{"\x80\x00", api.ErrEncoding},
		{ten, api.ErrEncoding},
		{number(-1), api.ErrAuth},
		{number(-1) + rest, api.ErrAuth},
		{number(-1) + rest + "more", api.ErrAuth},
		{number(4), api.ErrAuth},
		{number(4) + rest, api.ErrAuth},
		{number(4) + rest + "more", api.ErrAuth},
		{number(64) + rest, api.ErrAuth},
		{number(math.MaxInt) + rest, api.ErrAuth},
		{number(math.MinInt) + rest, api.ErrAuth},
		{number(3), api.ErrTruncated},
		{number(3) + rest[1:], api.ErrTruncated},
		{number(3) + rest + "m", api.ErrEncoding},
		{number(3) + rest, api.ErrAuth},
		{number(0) + rest, api.ErrAuth},
	} {
		refuses(t, "P3.4: "+hex.EncodeToString([]byte(x.signature[:min(12, len(x.signature))])), p, k.height, "message", x.signature, x.want)
	}
}

// TestForgery climbs a chain of a signature further: the sum of the digits then asks for a value that is not known.
func TestForgery(t *testing.T) {
	k := key{"seed", 0}
	p := k.public(t)
	s := k.sign(t, 0, "message")
	digits := Digits(Message(p, 0, "message"))
	for j, d := range digits {
		if d == 15 {
			continue
		}
		at := 1 + 16*j
		further := s[:at] + of(4, numbers(0, j, d+1), s[at:at+16]) + s[at+16:]
		refuses(t, "P3.4: a value further up", p, 0, "message", further, api.ErrAuth)
	}
}

func TestSameArgumentsSameResults(t *testing.T) {
	k := key{"seed", 2}
	p, s := k.public(t), k.sign(t, 3, "message")
	key{"other", 3}.sign(t, 1, "m")
	if k.public(t) != p || k.sign(t, 3, "message") != s {
		t.Error("P3.2, P3.3: results depend on earlier calls")
	}
}
