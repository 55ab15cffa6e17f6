package palette

import (
	"math"
	"slices"
	"strings"
	"testing"

	"voxel/api"
)

func bytesOf(b ...byte) string { return string(b) }

// indexBits and perByte are w of the chapter for m different cells, and how many indices a byte takes.
func indexBits(m int) (int, int) {
	for _, row := range [...][3]int{{1, 0, 64}, {2, 1, 8}, {4, 2, 4}, {16, 4, 2}} {
		if m <= row[0] {
			return row[1], row[2]
		}
	}
	return 8, 1
}

// packed is the packed form by its definition.
func packed(cells []int) string {
	if len(cells) == 0 {
		return bytesOf(0)
	}
	var list []int
	for i, cell := range cells {
		if slices.Index(cells, cell) == i {
			list = append(list, cell)
		}
	}
	text := bytesOf(byte(len(cells)), byte(len(list)))
	for _, cell := range list {
		text += bytesOf(byte(cell))
	}
	w, n := indexBits(len(list))
	for w > 0 && len(cells) > 0 {
		part := cells[:min(n, len(cells))]
		cells = cells[len(part):]
		b := 0
		for i, cell := range part {
			b += slices.Index(list, cell) << (i * w)
		}
		text += bytesOf(byte(b))
	}
	return text
}

// guess returns the cells that the packed form has which begins with a text, if there is one: what the text does not tell is chosen so that each cell of the palette occurs as soon as it can.
func guess(text string) []int {
	if text == "" || text[0] == 0 || text[0] > 64 {
		return nil
	}
	n, m := int(text[0]), 1
	if len(text) > 1 {
		m = max(1, int(text[1]))
	}
	var list []int
	for i := 2; i < min(len(text), 2+m); i++ {
		list = append(list, int(text[i]))
	}
	for cell := 0; len(list) < m && cell < 256; cell++ {
		if !slices.Contains(list, cell) {
			list = append(list, cell)
		}
	}
	for len(list) < m {
		list = append(list, 0)
	}
	w, per := indexBits(m)
	var cells []int
	used := 0
	for i := range n {
		index := 0
		if at := 2 + m + i/per; w > 0 && at < len(text) {
			index = int(text[at]) >> (i % per * w) % (1 << w)
		} else if used < m {
			index = used
		}
		if index == used {
			used++
		}
		cells = append(cells, list[index%m])
	}
	return cells
}

// answer is what Unpack has to return for a text, by its definition.
func answer(text string) ([]int, int, api.Errno) {
	cells := guess(text)
	form := packed(cells)
	switch {
	case text != "" && strings.HasPrefix(text, form):
		return cells, len(form), api.OK
	case strings.HasPrefix(form, text):
		return nil, 0, api.ErrTruncated
	}
	return nil, 0, api.ErrEncoding
}

// unpacks checks that Unpack returns for a text what it has to.
func unpacks(t *testing.T, text string) {
	t.Helper()
	want, size, f := answer(text)
	cells, n, e := Unpack(text)
	if !slices.Equal(cells, want) || n != size || e != f {
		t.Fatal("P8.2:", []byte(text), cells, n, e, "want", want, size, f)
	}
	if s, f := Pack(cells); e == api.OK && (f != api.OK || s != text[:n]) {
		t.Fatal("P8.6: what Unpack accepts is not what Pack returns:", []byte(text), n, []byte(s), f)
	}
}

// random returns a function that answers numbers from 0 to n - 1, always the same ones for a seed.
func random(seed int) func(n int) int {
	return func(n int) int {
		seed = (seed*1103515245 + 12345) % (1 << 31)
		return seed >> 8 % n
	}
}

// mixed returns n cells with m different materials.
func mixed(n, m int, next func(n int) int) []int {
	first, step := next(256), 2*next(128)+1
	cells := make([]int, n)
	for i := range cells {
		k := i
		if i >= m {
			k = next(m)
		}
		cells[i] = (first + k*step) % 256
	}
	for i := range cells {
		j := next(n)
		cells[i], cells[j] = cells[j], cells[i]
	}
	return cells
}

// someCells returns lists of all lengths with all numbers of different materials.
func someCells() [][]int {
	list := [][]int{nil, {}}
	next := random(7)
	for n := 1; n <= 64; n++ {
		for m := 1; m <= n; m++ {
			list = append(list, mixed(n, m, next))
		}
	}
	return list
}

// someBricks returns bricks with all numbers of different materials, in several orders.
func someBricks() [][]int {
	var list [][]int
	next := random(8)
	for m := 1; m <= 64; m++ {
		late := mixed(64, m, next)
		slices.Sort(late)
		list = append(list, mixed(64, m, next), mixed(64, m, next), late)
	}
	return list
}

func repeated(cell, n int) []int { return slices.Repeat([]int{cell}, n) }

func counted(n int) []int {
	l := make([]int, n)
	for i := range l {
		l[i] = i
	}
	return l
}

// notMaterials are cells that are not valid.
func notMaterials() []int {
	return []int{-1, 256, 257, 511, 512, -256, 1 << 32, math.MaxInt, math.MinInt}
}

func TestPack(t *testing.T) {
	for _, cells := range someCells() {
		before := slices.Clone(cells)
		if s, e := Pack(cells); s != packed(cells) || e != api.OK {
			t.Fatal("P8.1:", cells, []byte(s), e)
		}
		if !slices.Equal(cells, before) {
			t.Fatal("P8.1: the argument was changed:", before)
		}
	}
	for _, cell := range []int{0, 1, 127, 128, 255} {
		for n := 1; n <= 64; n++ {
			if s, e := Pack(repeated(cell, n)); s != bytesOf(byte(n), 1, byte(cell)) || e != api.OK {
				t.Error("P8.1:", cell, n, []byte(s), e)
			}
		}
	}
}

func TestPackExamples(t *testing.T) {
	for _, x := range []struct {
		cells []int
		want  string
	}{
		{[]int{7, 7, 3, 7}, bytesOf(4, 2, 7, 3, 4)},
		{[]int{5}, bytesOf(1, 1, 5)},
		{nil, bytesOf(0)},
		{[]int{9, 8, 7}, bytesOf(3, 3, 9, 8, 7, 36)},
		{[]int{0, 255}, bytesOf(2, 2, 0, 255, 2)},
		{[]int{1, 1, 1, 1, 1, 1, 1, 1, 2}, bytesOf(9, 2, 1, 2, 0, 1)},
		{[]int{4, 3, 2, 1, 4}, bytesOf(5, 4, 4, 3, 2, 1, 0xe4, 0)},
		{[]int{1, 2, 3, 4, 5, 5}, bytesOf(6, 5, 1, 2, 3, 4, 5, 0x10, 0x32, 0x44)},
		{counted(16), bytesOf(16, 16) + bytesOf(0, 1, 2, 3, 4, 5, 6, 7, 8, 9, 10, 11, 12, 13, 14, 15) + bytesOf(0x10, 0x32, 0x54, 0x76, 0x98, 0xba, 0xdc, 0xfe)},
		{counted(17), bytesOf(17, 17) + strings.Repeat(bytesOf(0, 1, 2, 3, 4, 5, 6, 7, 8, 9, 10, 11, 12, 13, 14, 15, 16), 2)},
	} {
		if s, e := Pack(x.cells); s != x.want || e != api.OK {
			t.Error("P8.1:", x.cells, []byte(s), e)
		}
		if packed(x.cells) != x.want {
			t.Error("the test's own packed form:", x.cells)
		}
	}
}

func TestPackRefuses(t *testing.T) {
	for _, n := range []int{65, 66, 128, 256, 320, 5000} {
		for _, cell := range []int{0, 9, 256} {
			if s, e := Pack(repeated(cell, n)); s != "" || e != api.ErrArg {
				t.Error("P8.1:", n, "cells:", []byte(s), e)
			}
		}
	}
	for _, bad := range notMaterials() {
		for _, n := range []int{1, 2, 9, 64} {
			for i := range n {
				cells := repeated(3, n)
				cells[i] = bad
				if s, e := Pack(cells); s != "" || e != api.ErrArg {
					t.Error("P8.1:", n, i, bad, []byte(s), e)
				}
			}
		}
	}
}

func TestUnpack(t *testing.T) {
	for _, cells := range someCells() {
		s := packed(cells)
		for _, tail := range []string{"", "\x00", "\xff", "z", s, strings.Repeat("\x00", 200)} {
			l, n, e := Unpack(s + tail)
			if !slices.Equal(l, cells) || n != len(s) || e != api.OK {
				t.Fatal("P8.2:", cells, tail, l, n, e)
			}
		}
		for i := range s {
			if l, n, e := Unpack(s[:i]); len(l) != 0 || n != 0 || e != api.ErrTruncated {
				t.Fatal("P8.2: a proper prefix:", []byte(s[:i]), l, n, e)
			}
		}
	}
}

func TestUnpackExamples(t *testing.T) {
	for _, x := range []struct {
		text string
		want api.Errno
	}{
		{"", api.ErrTruncated},
		{bytesOf(4, 2, 7, 3), api.ErrTruncated},
		{bytesOf(4, 2, 7, 3, 20), api.ErrEncoding},
		{bytesOf(2, 2, 7, 7, 2), api.ErrEncoding},
		{bytesOf(64), api.ErrTruncated},
		{bytesOf(65), api.ErrEncoding},
		{bytesOf(255, 1, 1), api.ErrEncoding},
		{bytesOf(3, 0), api.ErrEncoding},
		{bytesOf(3, 4), api.ErrEncoding},
		{bytesOf(3, 255), api.ErrEncoding},
		{bytesOf(64, 64), api.ErrTruncated},
		{bytesOf(64, 65), api.ErrEncoding},
		{bytesOf(3, 3, 9, 9), api.ErrEncoding},              // the palette is not whole, but bad already
		{bytesOf(4, 2, 7, 3, 0), api.ErrEncoding},           // the second one does not occur
		{bytesOf(4, 2, 7, 3, 1), api.ErrEncoding},           // the second one occurs first
		{bytesOf(3, 3, 9, 8, 7, 0x18), api.ErrEncoding},     // the third one occurs before the second one
		{bytesOf(4, 3, 9, 8, 7, 0xe4), api.ErrEncoding},     // there is no fourth one
		{bytesOf(6, 3, 9, 8, 7, 0), api.ErrTruncated},       // two cells are left for two
		{bytesOf(5, 3, 9, 8, 7, 0), api.ErrEncoding},        // one cell is left for two
		{bytesOf(5, 3, 9, 8, 7, 4), api.ErrTruncated},       // one cell is left for one
		{bytesOf(3, 3, 9, 8, 7, 0x64), api.ErrEncoding},     // a bit that is not used
		{bytesOf(9, 2, 1, 2, 0), api.ErrTruncated},          // one cell is left for one
		{bytesOf(9, 2, 1, 2, 0, 3), api.ErrEncoding},        // a bit that is not used
		{bytesOf(6, 5, 1, 2, 3, 4, 5, 0), api.ErrTruncated}, // four cells are left for four
		{bytesOf(5, 5, 1, 2, 3, 4, 5, 0), api.ErrEncoding},  // three cells are left for four
		{bytesOf(5, 5, 1, 2, 3, 4, 5, 0x10, 0x32), api.ErrTruncated},
		{bytesOf(5, 5, 1, 2, 3, 4, 5, 0x10, 0x32, 0x14), api.ErrEncoding},
	} {
		if l, n, e := Unpack(x.text); len(l) != 0 || n != 0 || e != x.want {
			t.Error("P8.2:", []byte(x.text), l, n, e)
		}
	}
}

// orders returns all lists of n cells with the palette 0, 1, 2 and so on.
func orders(n int) [][]int {
	if n == 0 {
		return [][]int{nil}
	}
	var list [][]int
	for _, cells := range orders(n - 1) {
		next := 0
		if len(cells) > 0 {
			next = slices.Max(cells) + 1
		}
		for cell := range next + 1 {
			list = append(list, append(slices.Clone(cells), cell))
		}
	}
	return list
}

// TestUnpackAll goes through all packed forms of up to nine cells with the palette 0, 1, 2 and so on, and through all texts that go on otherwise at one byte.
func TestUnpackAll(t *testing.T) {
	forms, begun := map[string][]int{}, map[string]bool{}
	for n := range 10 {
		for _, cells := range orders(n) {
			s := packed(cells)
			forms[s] = cells
			for i := range s {
				begun[s[:i]] = true
			}
		}
	}
	for s := range begun {
		for b := range 256 {
			text := s + bytesOf(byte(b))
			i := len(s) - 2
			if len(s) == 0 && b > 9 && b <= 64 || i >= 0 && i < int(s[1]) && b > i {
				continue // more cells, or another palette
			}
			cells, is := forms[text]
			e := api.ErrEncoding
			switch {
			case is:
				e = api.OK
			case begun[text]:
				e = api.ErrTruncated
			}
			for _, tail := range [...]string{"", "\x00", "\x01\xff"} {
				if tail != "" && begun[text] {
					break
				}
				l, n, f := Unpack(text + tail)
				if f != e || !slices.Equal(l, cells) || is != (n != 0) || is && n != len(text) {
					t.Fatal("P8.2:", []byte(text+tail), l, n, f, "want", cells, e)
				}
			}
		}
	}
}

func TestUnpackChanged(t *testing.T) {
	next := random(9)
	for _, cells := range someCells() {
		s := packed(cells)
		unpacks(t, s)
		for range 60 {
			text := []byte(s[:next(len(s)+1)])
			if next(2) == 0 {
				text = []byte(s)
			}
			for range next(3) {
				if len(text) == 0 {
					break
				}
				i := next(len(text))
				if next(2) == 0 {
					i = next(min(len(text), 4))
				}
				text[i] = []byte{text[i] + 1, text[i] - 1, text[i] ^ 1<<next(8), 0, 255, text[next(len(text))], byte(next(256))}[next(7)]
			}
			unpacks(t, string(text))
			unpacks(t, string(text)+"\x00")
		}
	}
	for range 100000 {
		text := []byte{byte(next(12)), byte(next(5))}
		for range next(8) {
			text = append(text, byte(next(1<<next(9))))
		}
		unpacks(t, string(text))
	}
}

// TestUnpackTooLate gives one cell too few to those of the palette that did not occur, for all widths.
func TestUnpackTooLate(t *testing.T) {
	for n := 2; n <= 64; n++ {
		for m := 2; m <= n; m++ {
			cells := append(repeated(0, n-m), counted(m)...) // the last m cells are the first ones of their materials
			s := packed(cells)
			if _, _, e := Unpack(s[:len(s)-1]); e != api.ErrTruncated {
				t.Fatal("P8.2:", n, m, e)
			}
			w, per := indexBits(m)
			text := []byte(s)
			for i := n - m + 1; i < n; i++ {
				text[2+m+i/per] &^= byte((1<<w - 1) << (i % per * w))
				unpacks(t, string(text))
				unpacks(t, string(text[:3+m+i/per]))
				if _, _, e := Unpack(string(text[:3+m+i/per])); e != api.ErrEncoding {
					t.Fatal("P8.2: too few cells are left:", n, m, i, e)
				}
			}
		}
	}
}

func TestEncode(t *testing.T) {
	for _, cells := range someBricks() {
		s, e := Encode(cells)
		if s != packed(cells) || e != api.OK {
			t.Fatal("P8.3: Encode:", cells, []byte(s), e)
		}
		if l, e := Decode(s); !slices.Equal(l, cells) || e != api.OK {
			t.Fatal("P8.3: Decode:", cells, l, e)
		}
		var list []int
		for i, cell := range cells {
			if !slices.Contains(cells[:i], cell) {
				list = append(list, cell)
			}
		}
		if l, e := Materials(s); !slices.Equal(l, list) || e != api.OK {
			t.Fatal("P8.3: Materials:", cells, l, e)
		}
	}
	for n := range 70 {
		s, e := Encode(counted(n))
		if want := n == 64; (e == api.OK) != want || !want && (e != api.ErrArg || s != "") {
			t.Error("P8.3: Encode:", n, "cells:", []byte(s), e)
		}
	}
	for _, bad := range notMaterials() {
		for i := range 64 {
			cells := repeated(3, 64)
			cells[i] = bad
			if s, e := Encode(cells); s != "" || e != api.ErrArg {
				t.Error("P8.3: Encode:", i, bad, []byte(s), e)
			}
		}
	}
}

// refuses checks that Decode and Materials return an error for a text.
func refuses(t *testing.T, text string, want api.Errno) {
	t.Helper()
	if l, e := Decode(text); len(l) != 0 || e != want {
		t.Fatal("P8.3: Decode:", []byte(text), l, e, "want", want)
	}
	if l, e := Materials(text); len(l) != 0 || e != want {
		t.Fatal("P8.3: Materials:", []byte(text), l, e, "want", want)
	}
}

func TestDecodeRefuses(t *testing.T) {
	next := random(10)
	for _, cells := range someCells() {
		s := packed(cells)
		if len(cells) != 64 {
			refuses(t, s, api.ErrEncoding)
			refuses(t, s+"\x00", api.ErrEncoding)
			refuses(t, s[:next(len(s))], api.ErrTruncated)
			continue
		}
		for _, tail := range []string{"\x00", "z", s} {
			refuses(t, s+tail, api.ErrEncoding)
		}
		for i := range s {
			refuses(t, s[:i], api.ErrTruncated)
		}
	}
	for _, cells := range someBricks() {
		for range 30 {
			text := []byte(packed(cells))
			text[next(len(text))] ^= 1 << next(8)
			want, n, e := answer(string(text))
			if e == api.OK && (len(want) != 64 || n < len(text)) {
				e = api.ErrEncoding
			}
			if e != api.OK {
				refuses(t, string(text), e)
				continue
			}
			if l, e := Decode(string(text)); !slices.Equal(l, want) || e != api.OK {
				t.Fatal("P8.3: Decode:", text, l, e)
			}
		}
	}
}

func TestSizes(t *testing.T) {
	for _, cells := range someBricks() {
		s, _ := Encode(cells)
		if m := int(s[1]); m == 1 && len(s) != 3 || m == 2 && len(s) != 12 || m == 64 && len(s) != 130 || len(s) > 130 {
			t.Error("P8.7:", m, len(s))
		}
	}
}

func TestOneEncoding(t *testing.T) {
	texts := map[string]bool{}
	for _, cells := range someBricks()[:60] {
		for i := range cells {
			other := slices.Clone(cells)
			other[i] ^= 1 + i%3
			s, _ := Encode(other)
			if u, _ := Encode(cells); s == u {
				t.Fatal("P8.6: two bricks have one encoding:", cells, other)
			}
			texts[s] = true
			if l, e := Decode(s); !slices.Equal(l, other) || e != api.OK {
				t.Fatal("P8.6:", other, l, e)
			}
		}
	}
	if len(texts) < 60*60 {
		t.Error("P8.6: too few different encodings:", len(texts))
	}
}

// TestMemory changes results, and looks at later ones.
func TestMemory(t *testing.T) {
	cells := mixed(64, 20, random(11))
	s, _ := Encode(cells)
	calls := map[string]func() []int{
		"Unpack":    func() []int { l, _, _ := Unpack(s); return l },
		"Decode":    func() []int { l, _ := Decode(s); return l },
		"Materials": func() []int { l, _ := Materials(s); return l },
	}
	for name, call := range calls {
		l := call()
		want := slices.Clone(l)
		for i := range l {
			l[i] = -1
		}
		if !slices.Equal(call(), want) {
			t.Error("P8.2, P8.3: a result shares memory with a later one:", name)
		}
	}
	u, _ := Encode(cells)
	clear(cells)
	if u != s {
		t.Error("P8.3: an encoding changes with the brick")
	}
}
