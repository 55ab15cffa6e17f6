package hash

import (
	"bytes"
	"crypto/hmac"
	"crypto/sha256"
	"encoding/binary"
	"encoding/hex"
	"math"
	"math/rand"
	"slices"
	"strings"
	"testing"

	"voxel/api"
)

// noise returns n bytes that look as if they had been drawn by chance, always the same ones.
func noise(n int) string {
	b := make([]byte, n)
	rand.New(rand.NewSource(int64(n))).Read(b)
	return string(b)
}

// lengths returns all lengths up to a few blocks, and those around the bounds of some later blocks.
func lengths() []int {
	var l []int
	for n := range 300 {
		l = append(l, n)
	}
	for _, block := range []int{8, 16, 63, 64, 65, 1024} {
		for _, n := range []int{-9, -8, -1, 0, 1} {
			l = append(l, 64*block+n)
		}
	}
	return l
}

// wantHash checks a hash that the text of the hexadecimal digits want tells.
func wantHash(t *testing.T, what string, got [32]byte, want string) {
	t.Helper()
	if hex.EncodeToString(got[:]) != want {
		t.Errorf("%s = %x, want %s", what, got, want)
	}
}

// The messages of FIPS 180-2 and of the chapter, and their hashes.
var known = []struct{ text, sum string }{
	{"", "e3b0c44298fc1c149afbf4c8996fb92427ae41e4649b934ca495991b7852b855"},
	{"abc", "ba7816bf8f01cfea414140de5dae2223b00361a396177a9cb410ff61f20015ad"},
	{"abcdbcdecdefdefgefghfghighijhijkijkljklmklmnlmnomnopnopq",
		"248d6a61d20638b8e5c026930c3e6039a33ce45964ff2167f6ecedd419db06c1"},
	{strings.Repeat("a", 1000000), "cdc76e5c9914fb9281a1c7e284d73e67f1809a48a497200e046d39ccc7112cd0"},
}

func TestSumOfKnownMessages(t *testing.T) {
	for _, x := range known {
		wantHash(t, "P2.1: Sum of "+x.text[:min(9, len(x.text))], Sum([]byte(x.text)), x.sum)
		wantHash(t, "P2.2: the stream of "+x.text[:min(9, len(x.text))], Begin().Add(x.text).Sum(), x.sum)
	}
	wantHash(t, "P2.1: Sum(nil)", Sum(nil), known[0].sum)
	wantHash(t, "P2.2: Begin().Sum()", Begin().Sum(), known[0].sum)
	wantHash(t, "P2.2: the example of the chapter", Begin().Add("a").Add("bc").Sum(), known[1].sum)
}

func TestSumOfAllLengths(t *testing.T) {
	for _, n := range lengths() {
		for _, text := range []string{noise(n), strings.Repeat("\x00", n), strings.Repeat("\xff", n), strings.Repeat("\x80", n)} {
			b := []byte(text)
			got := Sum(b)
			if got != sha256.Sum256([]byte(text)) {
				t.Errorf("P2.1: Sum of %d bytes that begin with %q = %x", n, text[:min(1, n)], got)
			}
			if string(b) != text {
				t.Fatalf("P2.1: Sum has changed its argument of %d bytes", n)
			}
			if Begin().Add(text).Sum() != got {
				t.Errorf("P2.2: a stream of %d bytes has another hash than its message", n)
			}
		}
	}
}

// TestSumOfTheCapacity checks that bytes behind the end of a slice do not count.
func TestSumOfTheCapacity(t *testing.T) {
	b := []byte(noise(200))
	for n := range b {
		if Sum(b[:n]) != sha256.Sum256(b[:n:n]) {
			t.Errorf("P2.1: the hash of %d bytes depends on what lies behind them", n)
		}
	}
	if string(b) != noise(200) {
		t.Error("P2.1: Sum has written behind the end of its argument")
	}
}

// TestLongMessage checks a message whose length in bits needs more than 32 bits.
func TestLongMessage(t *testing.T) {
	t.Parallel()
	piece := noise(1 << 20)
	s, want := Begin(), sha256.New()
	for range 1 << 9 {
		s = s.Add(piece)
		want.Write([]byte(piece))
	}
	s = s.Add("abc")
	want.Write([]byte("abc"))
	wantHash(t, "P2.1, P2.2: the hash of 2^29 + 3 bytes", s.Sum(), hex.EncodeToString(want.Sum(nil)))
}

// TestPieces checks P2.6 for streams: messages in two pieces, in pieces of one length, and in pieces of any lengths.
func TestPieces(t *testing.T) {
	text := noise(260)
	want := Sum([]byte(text))
	for n := range len(text) + 1 {
		if Begin().Add(text[:n]).Add(text[n:]).Sum() != want {
			t.Errorf("P2.6: the pieces of %d and %d bytes have another hash", n, len(text)-n)
		}
	}
	for n := 1; n <= len(text); n++ {
		s := Begin().Add("")
		for piece := range slices.Chunk([]byte(text), n) {
			s = s.Add(string(piece)).Add("")
		}
		if s.Sum() != want {
			t.Errorf("P2.6: pieces of %d bytes have another hash", n)
		}
	}
	random := rand.New(rand.NewSource(1))
	for range 300 {
		text := noise(random.Intn(1000))
		s := Begin()
		for rest := text; rest != ""; {
			n := random.Intn(min(len(rest), 1+random.Intn(150)) + 1)
			s, rest = s.Add(rest[:n]), rest[n:]
		}
		if s.Sum() != Sum([]byte(text)) {
			t.Errorf("P2.6: pieces of a message of %d bytes have another hash", len(text))
		}
	}
}

// TestStreamsStay checks that several streams can continue one, whatever becomes of the others.
func TestStreamsStay(t *testing.T) {
	tails := []string{"", "x", noise(7), noise(63), noise(64), noise(130)}
	for n := range 200 {
		head := noise(n)
		s := Begin().Add(head)
		want := Sum([]byte(head))
		var next []Stream
		for _, tail := range tails {
			next = append(next, s.Add(tail))
			if s.Sum() != want {
				t.Fatalf("P2.2: a stream of %d bytes has changed as %d bytes were added", n, len(tail))
			}
		}
		for i, tail := range tails {
			for _, last := range []string{"", "y", noise(64)} {
				if next[i].Add(last).Sum() != Sum([]byte(head+tail+last)) {
					t.Errorf("P2.2: %d bytes, continued by %d and %d, have a wrong hash", n, len(tail), len(last))
				}
			}
			if next[i].Sum() != Sum([]byte(head+tail)) || next[i].Sum() != next[i].Sum() {
				t.Errorf("P2.2: %d bytes, continued by %d, have a wrong hash after other calls", n, len(tail))
			}
		}
	}
	wantHash(t, "P2.2: Begin().Sum() after other streams", Begin().Sum(), known[0].sum)
}

func TestMacOfKnownTexts(t *testing.T) {
	for _, x := range []struct{ key, text, mac string }{
		{"", "", "b613679a0814d9ec772f95d778c35fc5ff1697c493715653c6c712144292c5ad"},
		{"Jefe", "what do ya want for nothing?", "5bdcc146bf60754e6a042426089575c75a003f089d2739839dec58b964ec3843"},
		{strings.Repeat("\x0b", 20), "Hi There", "b0344c61d8db38535ca8afceaf0bf12b881dc200c9833da726e9376c2e32cff7"},
		{strings.Repeat("\xaa", 20), strings.Repeat("\xdd", 50), "773ea91e36800e46854db8ebd09181a72959098b3ef8c122d9635514ced565fe"},
		{strings.Repeat("\xaa", 131), "Test Using Larger Than Block-Size Key - Hash Key First",
			"60e431591ee0b67f0d8a26aacbf5b77f8e0bc6213728c5140546040f0ee37f54"},
	} {
		if got := hex.EncodeToString([]byte(Mac(x.key, x.text))); got != x.mac {
			t.Errorf("P2.3: Mac(%q, %q) = %s, want %s", x.key, x.text, got, x.mac)
		}
	}
}

func TestMacOfAllLengths(t *testing.T) {
	for size := range 200 {
		for _, n := range []int{0, 1, 31, 32, 55, 56, 63, 64, 65, 119, 120, 128, 300} {
			key, text := noise(size), noise(n + 1)[1:]
			want := hmac.New(sha256.New, []byte(key))
			want.Write([]byte(text))
			if got := Mac(key, text); got != string(want.Sum(nil)) {
				t.Errorf("P2.3: Mac of a key of %d bytes and a text of %d bytes = %x", size, n, got)
			}
		}
	}
}

// TestMacKeys checks what P2.3 says of keys: the short ones are extended by zero bytes, the long ones are replaced.
func TestMacKeys(t *testing.T) {
	for size := range 64 {
		key := noise(size)
		if Mac(key, "text") != Mac(key+strings.Repeat("\x00", 64-size), "text") {
			t.Errorf("P2.3: a key of %d bytes is not extended by zero bytes", size)
		}
		if Mac(key, "text") == Mac(key+"\x01", "text") {
			t.Errorf("P2.3: the byte %d of a key does not count", size)
		}
	}
	for _, size := range []int{65, 66, 127, 128, 129, 1000} {
		sum := Sum([]byte(noise(size)))
		if Mac(noise(size), "text") != Mac(string(sum[:]), "text") {
			t.Errorf("P2.3: a key of %d bytes is not replaced by its Sum", size)
		}
	}
	sum := Sum([]byte(noise(64)))
	if Mac(noise(64), "text") == Mac(string(sum[:]), "text") {
		t.Error("P2.3: a key of 64 bytes is replaced by its Sum")
	}
}

// digest computes P2.4 from the text; the encoding of a length is P1.1.
func digest(tag byte, parts ...string) api.Digest {
	b := []byte{tag}
	for _, part := range parts {
		b = append(binary.AppendUvarint(b, 2*uint64(len(part))), part...)
	}
	sum := sha256.Sum256(b)
	return api.Digest(sum[:16])
}

func TestOfKnownParts(t *testing.T) {
	for _, x := range []struct {
		tag   int
		parts []string
		want  string
	}{
		{1, nil, "4bf5122f344554c53bde2ebb8cd2b7e3"},
		{1, []string{}, "4bf5122f344554c53bde2ebb8cd2b7e3"},
		{8, []string{"a", ""}, "fa154ba5a4d266f1b64c826ceedcacb7"},
		{8, []string{"", "a"}, "ba7ef45e2e4bfb5c99ab164fc7e8cf07"},
		{8, []string{"a"}, "f00c94acadf0b6a373514fe63a372f72"},
	} {
		if d := Of(x.tag, x.parts...); hex.EncodeToString(d[:]) != x.want {
			t.Errorf("P2.4: Of(%d, %q) = %x, want %s", x.tag, x.parts, d, x.want)
		}
	}
}

func TestOfTags(t *testing.T) {
	seen := map[api.Digest]int{}
	for tag := range 256 {
		d := digest(byte(tag), "part")
		for _, turns := range []int{0, 1, -1, 2, -2, 1 << 24, -1 << 24, 1 << 40} {
			if got := Of(tag+256*turns, "part"); got != d {
				t.Errorf("P2.4: Of(%d, part) = %x, want that of the tag %d", tag+256*turns, got, tag)
			}
		}
		if other, found := seen[d]; found {
			t.Errorf("P2.6: the tags %d and %d have one digest", tag, other)
		}
		seen[d] = tag
	}
	for tag, low := range map[int]byte{math.MaxInt: 255, math.MinInt: 0, math.MinInt + 5: 5, -1: 255, -255: 1} {
		if Of(tag, "part") != digest(low, "part") {
			t.Errorf("P2.4: Of(%d, part) is not that of the tag %d", tag, low)
		}
	}
}

func TestOfParts(t *testing.T) {
	for _, n := range append(lengths(), 20000) {
		parts := []string{noise(n), "", noise(n / 2)}
		given := slices.Clone(parts)
		for many := range parts {
			if Of(api.TagNode, parts[:many+1]...) != digest(api.TagNode, parts[:many+1]...) {
				t.Errorf("P2.4: Of %d parts, the first one of %d bytes, is wrong", many+1, n)
			}
		}
		if !slices.Equal(parts, given) {
			t.Fatal("P2.4: Of has changed its parts")
		}
	}
	many := slices.Repeat([]string{"a", "bc", ""}, 1000)
	if Of(2, many...) != digest(2, many...) {
		t.Error("P2.4: Of 3000 parts is wrong")
	}
}

// TestOfSeparates checks that different lists have different digests: all lists of up to four
// parts that look alike when they are joined, or that look like lengths.
func TestOfSeparates(t *testing.T) {
	words := []string{"", "a", "aa", "aaa", "\x00", "\x01", "\x02", "\x02a", "\x02a\x00", "\x00\x02a"}
	seen := map[api.Digest][]string{}
	var extend func(parts []string)
	extend = func(parts []string) {
		d := Of(9, parts...)
		if other, found := seen[d]; found {
			t.Fatalf("P2.6: Of %q and %q are one digest", parts, other)
		}
		seen[d] = slices.Clone(parts)
		if len(parts) == 4 {
			return
		}
		for _, w := range words {
			extend(append(parts[:len(parts):len(parts)], w))
		}
	}
	extend(nil)
}

func TestEqual(t *testing.T) {
	for _, x := range []struct {
		a, b string
		want bool
	}{
		{"", "", true}, {"ab", "ab", true}, {"ab", "ac", false}, {"", "a", false}, {"a", "", false},
		{"ab", "a", false}, {"a", "ab", false}, {"ab", "ba", false}, {"a", "a\x00", false}, {"", "\x00", false},
		{"\x00", "", false}, {"\x00\x01", "\x01\x00", false}, {"ab\x00", "ab", false}, {"aab", "abb", false},
	} {
		if got := Equal(x.a, x.b); got != x.want {
			t.Errorf("P2.5: Equal(%q, %q) = %t", x.a, x.b, got)
		}
	}
}

// TestEqualBits changes each bit, and pairs of bits, of texts of several lengths.
func TestEqualBits(t *testing.T) {
	for _, n := range []int{1, 2, 16, 32, 33, 64} {
		a := noise(n)
		if !Equal(a, string(bytes.Clone([]byte(a)))) {
			t.Errorf("P2.5: a text of %d bytes is not equal to a copy", n)
		}
		for bit := range 8 * n {
			b := []byte(a)
			b[bit/8] ^= 1 << (bit % 8)
			if Equal(a, string(b)) || Equal(string(b), a) {
				t.Errorf("P2.5: the bit %d of %d bytes does not count", bit, n)
			}
			b[(bit/8+1)%n] ^= 1 << (bit % 8) // two differences must not cancel each other
			if n > 1 && (Equal(a, string(b)) || Equal(string(b), a)) {
				t.Errorf("P2.5: two differences at the bit %d of %d bytes cancel each other", bit, n)
			}
		}
		for size := range n {
			if Equal(a, a[:size]) || Equal(a[:size], a) {
				t.Errorf("P2.5: a text of %d bytes is equal to its first %d bytes", n, size)
			}
		}
	}
}
