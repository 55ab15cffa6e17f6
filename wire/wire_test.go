package wire

import (
	"bytes"
	"math"
	"math/big"
	"runtime"
	"slices"
	"strings"
	"testing"

	"voxel/api"
)

// codec is a pair of an encoding and a decoding function; its methods check what holds for all pairs.
type codec[T any] struct {
	name string
	put  func(T) []byte
	get  func([]byte) (T, int, api.Errno)
	same func(T, T) bool
}

func equal[T comparable](a, b T) bool { return a == b }

var (
	ints    = codec[int]{"Int", Int, GetInt, equal[int]}
	texts   = codec[string]{"Bytes", Bytes, GetBytes, equal[string]}
	lists   = codec[[]int]{"Ints", Ints, GetInts, slices.Equal[[]int]}
	strs    = codec[[]string]{"Strings", Strings, GetStrings, slices.Equal[[]string]}
	digests = codec[[]api.Digest]{"Digests", Digests, GetDigests, slices.Equal[[]api.Digest]}
)

// encodes checks that v has the encoding b, in both directions.
func (c codec[T]) encodes(t *testing.T, promise string, v T, b []byte) {
	t.Helper()
	if got := c.put(v); !bytes.Equal(got, b) {
		t.Errorf("%s: %s(%#v) = %v, want %v", promise, c.name, v, got, b)
	}
	if got, n, e := c.get(b); !c.same(got, v) || n != len(b) || e != api.OK {
		t.Errorf("%s: Get%s(%v) = %#v, %d, %d, want %#v", promise, c.name, b, got, n, e, v)
	}
}

// fails checks that b is refused with an error, and that all else is zero then.
func (c codec[T]) fails(t *testing.T, promise string, b []byte, want api.Errno) {
	t.Helper()
	var zero T
	if got, n, e := c.get(b); !c.same(got, zero) || n != 0 || e != want {
		t.Errorf("%s: Get%s(%v) = %#v, %d, %d, want the error %d", promise, c.name, b, got, n, e, want)
	}
}

// roundTrip checks P1.6 for the encoding of v.
func (c codec[T]) roundTrip(t *testing.T, v T) {
	t.Helper()
	b := c.put(v)
	for _, after := range []string{"", "\x00", "\x80", "\xff\xff\xff\xff\xff\xff\xff\xff\xff\xff\xff", "abc"} {
		got, n, e := c.get(append(slices.Clone(b), after...))
		if !c.same(got, v) || n != len(b) || e != api.OK {
			t.Errorf("P1.6: Get%s of the encoding of %#v and %q = %#v, %d, %d", c.name, v, after, got, n, e)
		}
	}
	for n := range b {
		c.fails(t, "P1.6", b[:n], api.ErrTruncated)
	}
}

// canonical checks what P1.2 to P1.6 say of the decoding of any bytes.
func (c codec[T]) canonical(t *testing.T, b []byte) {
	t.Helper()
	given := slices.Clone(b)
	v, n, e := c.get(b)
	if !bytes.Equal(b, given) {
		t.Fatalf("Get%s has changed its argument %v", c.name, given)
	}
	switch e {
	case api.OK:
		if n < 1 || n > len(b) || !bytes.Equal(c.put(v), b[:n]) {
			t.Errorf("P1.6: Get%s(%v) = %#v, %d, which is encoded as %v", c.name, b, v, n, c.put(v))
		}
	case api.ErrTruncated, api.ErrEncoding:
		c.fails(t, "P1.6", b, e)
	default:
		t.Errorf("Get%s(%v) fails with %d", c.name, b, e)
	}
	if e == api.ErrEncoding {
		c.fails(t, "P1.6: what follows does not matter", append(given, 0, 1, 255), e)
	}
	if t.Failed() { // thousands of sequences would fail alike
		t.FailNow()
	}
}

// encoding computes P1.1 from the text, with numbers of any size.
func encoding(n int) []byte {
	z := new(big.Int).Mul(big.NewInt(2), big.NewInt(int64(n)))
	if n < 0 {
		z.Neg(z).Sub(z, big.NewInt(1))
	}
	var b []byte
	for base, digit := big.NewInt(128), new(big.Int); ; {
		z.DivMod(z, base, digit)
		if z.Sign() == 0 {
			return append(b, byte(digit.Int64()))
		}
		b = append(b, byte(digit.Int64()+128))
	}
}

// integerError computes the error of P1.2 from the text.
func integerError(b []byte) api.Errno {
	end := slices.IndexFunc(b[:min(10, len(b))], func(d byte) bool { return d < 128 })
	switch {
	case end < 0 && len(b) >= 10:
		return api.ErrEncoding
	case end < 0:
		return api.ErrTruncated
	case end == 9 && b[end] > 1, end > 0 && b[end] == 0:
		return api.ErrEncoding
	}
	return api.OK
}

// integers returns integers around all bounds of lengths, in ascending order.
func integers() []int {
	l := []int{math.MinInt, math.MinInt + 1, math.MaxInt - 1, math.MaxInt}
	for bit := range 63 {
		for d := -2; d <= 2; d++ {
			l = append(l, 1<<bit+d, -1<<bit+d)
		}
	}
	for n := -300; n <= 300; n++ {
		l = append(l, n)
	}
	slices.Sort(l)
	return slices.Compact(l)
}

// sequences calls f for all sequences of at most most of the bytes of alphabet.
func sequences(alphabet string, most int, f func([]byte)) {
	var grow func(b []byte)
	grow = func(b []byte) {
		f(slices.Clone(b))
		for i := 0; i < len(alphabet) && len(b) < most; i++ {
			grow(append(b, alphabet[i]))
		}
	}
	grow(nil)
}

// full returns n times the byte 255, and some further bytes.
func full(n int, more ...byte) []byte { return append(bytes.Repeat([]byte{255}, n), more...) }

func TestInt(t *testing.T) {
	for _, x := range []struct {
		n int
		b []byte
	}{
		{0, []byte{0}},
		{1, []byte{2}},
		{63, []byte{126}},
		{64, []byte{128, 1}},
		{8191, []byte{254, 127}},
		{8192, []byte{128, 128, 1}},
		{-1, []byte{1}},
		{-64, []byte{127}},
		{-65, []byte{129, 1}},
		{math.MaxInt, append([]byte{254}, full(8, 1)...)},
		{math.MinInt, full(9, 1)},
	} {
		ints.encodes(t, "P1.1, P1.2", x.n, x.b)
	}
	for _, n := range integers() {
		ints.encodes(t, "P1.1, P1.2", n, encoding(n))
	}
}

func TestGetIntErrors(t *testing.T) {
	for _, x := range []struct {
		b []byte
		e api.Errno
	}{
		{nil, api.ErrTruncated},
		{[]byte{}, api.ErrTruncated},
		{[]byte{128}, api.ErrTruncated},
		{full(9), api.ErrTruncated},
		{full(10), api.ErrEncoding},
		{full(11), api.ErrEncoding},
		{full(10, 1), api.ErrEncoding},
		{full(9, 2), api.ErrEncoding},
		{full(9, 127), api.ErrEncoding},
		{full(9, 128), api.ErrEncoding},
		{full(9, 0), api.ErrEncoding},
		{[]byte{128, 0}, api.ErrEncoding},
		{[]byte{128, 0, 1}, api.ErrEncoding},
		{[]byte{255, 128, 0}, api.ErrEncoding},
	} {
		ints.fails(t, "P1.2", x.b, x.e)
	}
}

func TestGetIntOfAnyBytes(t *testing.T) {
	check := func(b []byte) {
		if _, _, e := GetInt(b); e != integerError(b) {
			t.Fatalf("P1.2: GetInt(%v) fails with %d, want %d", b, e, integerError(b))
		}
		ints.canonical(t, b)
	}
	sequences("\x00\x01\x02\x7f\x80\x81\xff", 4, func(b []byte) {
		check(b)
		check(append(full(8), b...))
		check(append(bytes.Repeat([]byte{128}, 7), b...))
	})
	for i := range 1 << 16 {
		check([]byte{byte(i), byte(i >> 8)})
	}
}

func TestBytes(t *testing.T) {
	texts.encodes(t, "P1.3", "", []byte{0})
	texts.encodes(t, "P1.3", "ab", []byte{4, 97, 98})
	texts.encodes(t, "P1.3", "\x00\xff\x80", []byte{6, 0, 255, 128})
	long := strings.Repeat("x", 64)
	texts.encodes(t, "P1.3", long, append([]byte{128, 1}, long...))
	for _, x := range []struct {
		b []byte
		e api.Errno
	}{
		{nil, api.ErrTruncated},
		{[]byte{128}, api.ErrTruncated},
		{[]byte{128, 0}, api.ErrEncoding},
		{full(9, 2), api.ErrEncoding},
		{[]byte{1}, api.ErrEncoding},
		{[]byte{127, 97, 98}, api.ErrEncoding},
		{Int(math.MinInt), api.ErrEncoding},
		{[]byte{2}, api.ErrTruncated},
		{[]byte{6, 97, 98}, api.ErrTruncated},
		{append(Int(math.MaxInt), 97, 98), api.ErrTruncated},
	} {
		texts.fails(t, "P1.3", x.b, x.e)
	}
}

func TestLists(t *testing.T) {
	lists.encodes(t, "P1.4, P1.5", nil, []byte{0})
	lists.encodes(t, "P1.4, P1.5", []int{}, []byte{0})
	lists.encodes(t, "P1.4, P1.5", []int{1, -1}, []byte{4, 2, 1})
	lists.encodes(t, "P1.4, P1.5", []int{64, 0}, []byte{4, 128, 1, 0})
	lists.encodes(t, "P1.4, P1.5", make([]int, 64), append([]byte{128, 1}, make([]byte, 64)...))
	strs.encodes(t, "P1.4, P1.5", nil, []byte{0})
	strs.encodes(t, "P1.4, P1.5", []string{"", "a"}, []byte{4, 0, 2, 97})
	strs.encodes(t, "P1.4, P1.5", []string{"ab", "\xff"}, []byte{4, 4, 97, 98, 2, 255})
	d, f := api.Digest{1, 2, 3}, api.Digest{15: 255}
	digests.encodes(t, "P1.4, P1.5", nil, []byte{0})
	digests.encodes(t, "P1.4, P1.5", []api.Digest{d, f}, slices.Concat([]byte{4}, d[:], f[:]))
}

func TestListErrors(t *testing.T) {
	const ok, cut, bad = api.OK, api.ErrTruncated, api.ErrEncoding
	for _, x := range []struct {
		b                      []byte
		ints, strings, digests api.Errno
	}{
		{nil, cut, cut, cut},
		{[]byte{128}, cut, cut, cut},
		{[]byte{128, 0}, bad, bad, bad},                         // a length that is not the shortest
		{full(9, 2), bad, bad, bad},                             // a length of too many bits
		{[]byte{1}, bad, bad, bad},                              // a negative length
		{append([]byte{1}, make([]byte, 40)...), bad, bad, bad}, // and enough that follows
		{Int(math.MinInt), bad, bad, bad},
		{[]byte{4, 0}, cut, cut, cut},                         // fewer bytes than elements
		{[]byte{4, 1}, cut, cut, cut},                         // also where the first element is bad
		{[]byte{6, 128, 0}, cut, cut, cut},                    // the same
		{[]byte{4, 128, 0}, bad, bad, cut},                    // the first element is bad
		{[]byte{6, 0, 128, 0}, bad, bad, cut},                 // the second one is
		{[]byte{4, 0, 128}, cut, cut, cut},                    // the second one is cut off
		{[]byte{6, 128, 1, 2}, cut, cut, cut},                 // the third one is missing
		{[]byte{2, 1}, ok, bad, cut},                          // a text of negative length
		{[]byte{4, 4, 97}, ok, cut, cut},                      // a text that is cut off
		{[]byte{4, 4, 1}, ok, cut, cut},                       // the first one that fails counts
		{append([]byte{2}, make([]byte, 15)...), ok, ok, cut}, // a digest without its last byte
		{append([]byte{4}, make([]byte, 31)...), ok, ok, cut},
		{append([]byte{2}, full(15)...), bad, bad, cut},
	} {
		if x.ints != ok {
			lists.fails(t, "P1.5", x.b, x.ints)
		} else {
			lists.canonical(t, x.b)
		}
		if x.strings != ok {
			strs.fails(t, "P1.5", x.b, x.strings)
		} else {
			strs.canonical(t, x.b)
		}
		digests.fails(t, "P1.5", x.b, x.digests)
	}
}

// TestHugeLengths: the lengths include those whose product with the size of a digest, or whose sum with that of the length, is not an int.
func TestHugeLengths(t *testing.T) {
	for _, n := range []int{math.MaxInt, math.MaxInt - 8, 1<<60 + 1, 1 << 60, 1<<59 + 1, 1 << 59, 1 << 32, 1<<28 + 1, 41} {
		b := append(Int(n), make([]byte, 40)...)
		texts.fails(t, "P1.3", b, api.ErrTruncated)
		lists.fails(t, "P1.5", b, api.ErrTruncated)
		strs.fails(t, "P1.5", b, api.ErrTruncated)
		digests.fails(t, "P1.5", b, api.ErrTruncated)
		negative := append(Int(-n), make([]byte, 40)...)
		texts.fails(t, "P1.3", negative, api.ErrEncoding)
		lists.fails(t, "P1.5", negative, api.ErrEncoding)
		strs.fails(t, "P1.5", negative, api.ErrEncoding)
		digests.fails(t, "P1.5", negative, api.ErrEncoding)
	}
}

func TestRoundTrips(t *testing.T) {
	all := integers()
	for _, n := range all {
		ints.roundTrip(t, n)
	}
	lists.roundTrip(t, nil)
	lists.roundTrip(t, all)
	lists.roundTrip(t, make([]int, 200))
	words := []string{"", "a", "", "\x80\x00", strings.Repeat("long", 40), "z"}
	for _, s := range words {
		texts.roundTrip(t, s)
	}
	strs.roundTrip(t, nil)
	strs.roundTrip(t, words)
	strs.roundTrip(t, make([]string, 200))
	digests.roundTrip(t, nil)
	digests.roundTrip(t, []api.Digest{{}, {1, 15: 2}, {255, 254}, {7: 128}})
	digests.roundTrip(t, make([]api.Digest, 70))
}

// TestAnyBytes decodes all short sequences of telling bytes, and some longer ones.
func TestAnyBytes(t *testing.T) {
	check := func(b []byte) {
		texts.canonical(t, b)
		lists.canonical(t, b)
		strs.canonical(t, b)
		digests.canonical(t, b)
	}
	sequences("\x00\x01\x02\x04\x06\x80\xff", 6, check)
	state := uint32(1)
	for size := range 400 {
		b := []byte{byte(size / 8 * 2 % 128)}
		for range size {
			state = state*1664525 + 1013904223
			b = append(b, byte(state>>24)>>(state>>13%8))
		}
		check(b)
	}
}

func TestSizes(t *testing.T) {
	all := integers()
	for _, n := range all {
		size := len(Int(n))
		if size < 1 || size > 10 || (size == 1) != (n >= -64 && n <= 63) || size != len(Int(-1-n)) {
			t.Errorf("P1.7: the encoding of %d has %d bytes, that of %d has %d", n, size, -1-n, len(Int(-1-n)))
		}
	}
	for i, n := range all[1:] {
		before, size := len(Int(all[i])), len(Int(n))
		if n >= 0 && all[i] >= 0 && before > size || n < 0 && before < size {
			t.Errorf("P1.7: the encodings of %d and %d have %d and %d bytes", all[i], n, before, size)
		}
	}
}

func TestNewMemory(t *testing.T) {
	given := []api.Digest{{1}, {2}}
	b := Digests(given)
	l, _, _ := GetDigests(b)
	clear(b)
	if !slices.Equal(l, []api.Digest{{1}, {2}}) {
		t.Error("P1.5: GetDigests shares its argument's memory:", l)
	}
	clear(l)
	if given[0] != (api.Digest{1}) {
		t.Error("P1.4: Digests shares its argument's memory:", given)
	}
	text := []byte{4, 97, 98}
	s, _, _ := GetBytes(text)
	words := append([]byte{2}, text...)
	w, _, _ := GetStrings(words)
	clear(text)
	clear(words)
	if s != "ab" || !slices.Equal(w, []string{"ab"}) {
		t.Errorf("P1.3, P1.5: the results %q and %q share the argument's memory", s, w)
	}
	first := Int(5)
	clear(first)
	if !bytes.Equal(Int(5), []byte{10}) {
		t.Error("P1.1: the results of Int share memory:", Int(5))
	}
}

// TestMemory: a short sequence that announces much is refused before memory is allocated for it.
func TestMemory(t *testing.T) {
	const most = 1 << 16
	for _, n := range []int{1 << 20, 1 << 24, 1 << 40, math.MaxInt} {
		b := append(Int(n), make([]byte, 100)...)
		nested := append(append(Int(101), make([]byte, 100)...), b...)
		var before, after runtime.MemStats
		runtime.ReadMemStats(&before)
		for _, x := range [][]byte{b, nested} {
			GetBytes(x)
			GetInts(x)
			GetStrings(x)
			GetDigests(x)
		}
		runtime.ReadMemStats(&after)
		if got := after.TotalAlloc - before.TotalAlloc; got > most {
			t.Errorf("P1.5: decoding %d bytes that announce %d elements allocates %d bytes", len(b), n, got)
		}
	}
}
