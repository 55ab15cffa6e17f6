package palette

import (
	"slices"
	"testing"

	"voxel/api"
)

// difference is Delta by its definition.
func difference(old, new []int) string {
	var bits [8]byte
	var cells []int
	for i := range 64 {
		if old[i] != new[i] {
			bits[i/8] += 1 << (i % 8)
			cells = append(cells, new[i])
		}
	}
	return string(bits[:]) + packed(cells)
}

// somePairs returns pairs of bricks that differ in all numbers of cells, at several places, and in each cell alone.
func somePairs() [][2][]int {
	var list [][2][]int
	next := random(12)
	for n := range 65 {
		for _, m := range []int{1, 2, 3, 5, 17, 64} {
			old := mixed(64, next(64)+1, next)
			fresh := slices.Clone(old)
			shift := mixed(64, m, next)
			for k := range n {
				i := k
				if m > 2 {
					i = (k*37 + m) % 64
				}
				fresh[i] = (old[i] + 1 + shift[i]%255) % 256
			}
			list = append(list, [2][]int{old, fresh})
		}
	}
	for i := range 64 {
		old := mixed(64, 9, next)
		fresh := slices.Clone(old)
		fresh[i] ^= 1 + next(255)
		list = append(list, [2][]int{old, fresh}, [2][]int{fresh, old})
	}
	return append(list, [2][]int{repeated(0, 64), repeated(255, 64)}, [2][]int{repeated(255, 64), counted(64)})
}

func TestDelta(t *testing.T) {
	for _, pair := range somePairs() {
		old, fresh := pair[0], pair[1]
		before := slices.Concat(old, fresh)
		d, e := Delta(old, fresh)
		if d != difference(old, fresh) || e != api.OK {
			t.Fatal("P8.4:", old, fresh, []byte(d), e)
		}
		if l, e := Patch(old, d); !slices.Equal(l, fresh) || e != api.OK {
			t.Fatal("P8.5:", old, []byte(d), l, e)
		}
		if !slices.Equal(before, slices.Concat(old, fresh)) {
			t.Fatal("P8.4, P8.5: an argument was changed:", before)
		}
		if d, e := Delta(old, old); d != string(make([]byte, 9)) || e != api.OK {
			t.Fatal("P8.7: of equal bricks:", []byte(d), e)
		}
	}
}

func TestDeltaExample(t *testing.T) {
	fresh := repeated(1, 64)
	fresh[9] = 6
	d := bytesOf(0, 2, 0, 0, 0, 0, 0, 0, 1, 1, 6)
	if s, e := Delta(repeated(1, 64), fresh); s != d || e != api.OK {
		t.Error("P8.4:", []byte(s), e)
	}
	if l, e := Patch(repeated(1, 64), d); !slices.Equal(l, fresh) || e != api.OK {
		t.Error("P8.5:", l, e)
	}
	fresh[0], fresh[7], fresh[56], fresh[63] = 2, 3, 2, 4
	d = bytesOf(0x81, 2, 0, 0, 0, 0, 0, 0x81, 5, 4, 2, 3, 6, 4, 0x24, 3)
	if s, e := Delta(repeated(1, 64), fresh); s != d || e != api.OK {
		t.Error("P8.4:", []byte(s), e)
	}
}

// notBricks are lists that are no bricks of materials.
func notBricks() [][]int {
	list := [][]int{nil, {}, repeated(1, 1), repeated(1, 63), repeated(1, 65), repeated(1, 128), repeated(256, 64), repeated(1, 320)}
	for i, bad := range notMaterials() {
		for _, at := range []int{0, 63, i * 7} {
			cells := repeated(1, 64)
			cells[at] = bad
			list = append(list, cells)
		}
	}
	return list
}

func TestDeltaRefuses(t *testing.T) {
	good := repeated(1, 64)
	for _, bad := range notBricks() {
		for _, pair := range [][2][]int{{good, bad}, {bad, good}, {bad, bad}} {
			if d, e := Delta(pair[0], pair[1]); d != "" || e != api.ErrArg {
				t.Error("P8.4:", pair, []byte(d), e)
			}
		}
		for _, d := range []string{"", "\x00", string(make([]byte, 9)), string(make([]byte, 10)), bytesOf(1, 0, 0, 0, 0, 0, 0, 0, 1, 1, 6), bytesOf(1, 0, 0, 0, 0, 0, 0, 0, 99)} {
			if l, e := Patch(bad, d); len(l) != 0 || e != api.ErrArg {
				t.Error("P8.5:", bad, []byte(d), l, e)
			}
		}
	}
}

// patches checks that Patch returns an error.
func patches(t *testing.T, old []int, delta string, want api.Errno) {
	t.Helper()
	if l, e := Patch(old, delta); len(l) != 0 || e != want {
		t.Fatal("P8.5:", old, []byte(delta), l, e, "want", want)
	}
}

func TestPatchRefuses(t *testing.T) {
	old := repeated(1, 64)
	for _, x := range []struct {
		delta string
		want  api.Errno
	}{
		{"", api.ErrTruncated},
		{"\xff", api.ErrTruncated},
		{bytesOf(0, 0, 0, 0, 0, 0, 0), api.ErrTruncated},
		{bytesOf(255, 255, 255, 255, 255, 255, 255), api.ErrTruncated},
		{bytesOf(0, 0, 0, 0, 0, 0, 0, 0), api.ErrTruncated},
		{bytesOf(0, 0, 0, 0, 0, 0, 0, 0, 1, 1), api.ErrTruncated},         // before the number of cells
		{bytesOf(1, 0, 0, 0, 0, 0, 0, 0, 2), api.ErrTruncated},            // before the number of cells
		{bytesOf(1, 0, 0, 0, 0, 0, 0, 0, 65), api.ErrEncoding},            // no packed form
		{bytesOf(1, 0, 0, 0, 0, 0, 0, 0, 1, 2), api.ErrEncoding},          // no packed form
		{bytesOf(3, 0, 0, 0, 0, 0, 0, 0, 2, 2, 5, 5), api.ErrEncoding},    // no packed form
		{bytesOf(0, 0, 0, 0, 0, 0, 0, 0, 0, 0), api.ErrEncoding},          // a byte is left
		{bytesOf(1, 0, 0, 0, 0, 0, 0, 0, 1, 1, 6, 0), api.ErrEncoding},    // a byte is left
		{bytesOf(0, 0, 0, 0, 0, 0, 0, 0, 1, 1, 6), api.ErrEncoding},       // one cell too many
		{bytesOf(1, 0, 0, 0, 0, 0, 0, 0, 0), api.ErrEncoding},             // one too few
		{bytesOf(1, 0, 0, 0, 0, 0, 0, 128, 1, 1, 6), api.ErrEncoding},     // one too few
		{bytesOf(1, 0, 0, 0, 0, 0, 0, 128, 3, 1, 6), api.ErrEncoding},     // one too many
		{bytesOf(1, 0, 0, 0, 0, 0, 0, 0, 1, 1, 1), api.ErrEncoding},       // no change
		{bytesOf(0, 0, 0, 0, 0, 0, 0, 128, 1, 1, 1), api.ErrEncoding},     // no change
		{bytesOf(3, 0, 0, 0, 0, 0, 0, 0, 2, 2, 6, 1, 2), api.ErrEncoding}, // one changes nothing
		{bytesOf(3, 0, 0, 0, 0, 0, 0, 0, 2, 2, 1, 6, 2), api.ErrEncoding}, // one changes nothing
	} {
		patches(t, old, x.delta, x.want)
	}
}

func TestPatchOfPairs(t *testing.T) {
	next := random(13)
	for _, pair := range somePairs() {
		old, fresh := pair[0], pair[1]
		d := difference(old, fresh)
		for i := range d {
			patches(t, old, d[:i], api.ErrTruncated)
		}
		for _, tail := range []string{"\x00", "\xff", d} {
			patches(t, old, d+tail, api.ErrEncoding)
		}
		for i := range 64 {
			other := []byte(d)
			other[i/8] ^= 1 << (i % 8)
			patches(t, old, string(other), api.ErrEncoding) // a cell more or less than the mask tells
			if old[i] != fresh[i] {
				same := slices.Clone(old)
				same[i] = fresh[i]
				patches(t, same, d, api.ErrEncoding)
			}
		}
		for range 20 {
			changed := []byte(d)
			for range 1 + next(3) {
				changed[next(len(changed))] ^= 1 << next(8)
			}
			accepts(t, old, string(changed))
		}
	}
}

// accepts checks that Patch returns what the definition requires of a text with a mask.
func accepts(t *testing.T, old []int, delta string) {
	t.Helper()
	cells, n, want := answer(delta[8:])
	fresh := slices.Clone(old)
	count := 0
	for i := range 64 {
		if delta[i/8]>>(i%8)%2 == 1 {
			if count < len(cells) {
				fresh[i] = cells[count]
			}
			count++
		}
	}
	if want == api.OK && (n != len(delta)-8 || count != len(cells) || difference(old, fresh) != delta) {
		want = api.ErrEncoding
	}
	if want != api.OK {
		patches(t, old, delta, want)
		return
	}
	if l, e := Patch(old, delta); !slices.Equal(l, fresh) || e != api.OK {
		t.Fatal("P8.5:", old, []byte(delta), l, e)
	}
	if d, e := Delta(old, fresh); d != delta || e != api.OK {
		t.Fatal("P8.6: what Patch accepts is not what Delta returns:", []byte(delta), []byte(d), e)
	}
}

func TestMemoryOfPatch(t *testing.T) {
	for _, fresh := range [][]int{repeated(1, 64), counted(64)} {
		old := repeated(1, 64)
		d, _ := Delta(old, fresh)
		l, _ := Patch(old, d)
		for i := range l {
			l[i] = -1
		}
		if !slices.Equal(old, repeated(1, 64)) {
			t.Error("P8.5: the result shares memory with the brick before")
		}
		l, _ = Patch(old, d)
		clear(old)
		if !slices.Equal(l, fresh) {
			t.Error("P8.5: the result changes with the brick before")
		}
	}
}
