package grid

import (
	"slices"
	"testing"

	"voxel/api"
	"voxel/point"
)

func TestSet(t *testing.T) {
	for _, g := range someGrids() {
		for i, p := range pointsNear(g.Box) {
			cell := []int{0, 7, 255}[i%3]
			m := plain(g)
			if _, is := m[p]; is {
				m[p] = cell
			}
			has(t, "P7.3: Set:", Set(g, p, cell), g.Box, m)
		}
	}
}

func TestWrite(t *testing.T) {
	g := varied(box(-1, 0, 2, 2, 3, 4), 5)
	var l []api.Change
	m := plain(g)
	for i, p := range append(pointsNear(g.Box), pointsNear(box(0, 0, 2, 2, 2, 3))...) {
		c := api.Change{At: p, Old: i * 31 % 500, New: i * 7 % 256}
		l = append(l, c)
		if _, is := m[p]; is {
			m[p] = c.New
		}
		has(t, "P7.3: Write:", Write(g, l), g.Box, m)
	}
	one := g
	for _, c := range l {
		one = Set(one, c.At, c.New)
	}
	if !Equal(one, Write(g, l)) {
		t.Error("P7.3: Write is not Set for each change")
	}
	for _, g := range someGrids() {
		if !Equal(Write(g, nil), g) || !Equal(Write(g, []api.Change{}), g) {
			t.Error("P7.7: Write of no change:", g)
		}
	}
	has(t, "P7.3: Write to the zero grid:", Write(api.Grid{}, l), api.Box{}, nil)
}

func TestFill(t *testing.T) {
	for _, g := range someGrids() {
		for i, b := range append(someBoxes(), box(-far, -far, -far, far, far, far), box(far, far, far, -far, -far, -far), g.Box) {
			cell := []int{0, 7, 255}[i%3]
			m := plain(g)
			for _, p := range cellsOf(g.Box) {
				if point.In(p, b) {
					m[p] = cell
				}
			}
			has(t, "P7.3: Fill:", Fill(g, b, cell), g.Box, m)
		}
	}
}

func TestPaste(t *testing.T) {
	grids := someGrids()
	for i, g := range grids {
		for _, h := range append(grids, varied(g.Box, 100+i)) {
			m := plain(g)
			for p, cell := range plain(h) {
				if _, is := m[p]; is {
					m[p] = cell
				}
			}
			has(t, "P7.4: Paste:", Paste(g, h), g.Box, m)
		}
	}
}

func TestCrop(t *testing.T) {
	for _, g := range someGrids() {
		m := plain(g)
		for _, b := range someBoxes() {
			h, e := Crop(g, b)
			has(t, "P7.4: Crop:", h, b, m)
			if e != api.OK {
				t.Error("P7.4: Crop:", g, b, e)
			}
		}
		if h, e := Crop(g, g.Box); !Equal(h, g) || e != api.OK {
			t.Error("P7.7: Crop to the own box:", g, h, e)
		}
		for _, b := range badBoxes() {
			if h, e := Crop(g, b); e != api.ErrArg || h.Box != (api.Box{}) || len(h.Cells) != 0 {
				t.Error("P7.4: Crop:", b, h.Box, len(h.Cells), e)
			}
		}
		for _, b := range greatBoxes() {
			if h, e := Crop(g, b); e != api.ErrLimit || h.Box != (api.Box{}) || len(h.Cells) != 0 {
				t.Error("P7.4: Crop:", b, h.Box, len(h.Cells), e)
			}
		}
	}
	h, e := Crop(sample(), box(1, 0, 0, 3, 1, 2))
	if e != api.OK || !slices.Equal(h.Cells, []int{5, 0, 7, 0}) {
		t.Error("P7.4: Crop: the example:", h, e)
	}
}

func TestShift(t *testing.T) {
	for _, by := range []api.Point{at(0, 0, 0), at(1, 0, 0), at(0, -2, 0), at(0, 0, 3), at(100, -far+9, far-9)} {
		for _, b := range someBoxes() {
			if point.Empty(b) || b.Min.X > far/2 || b.Min.X < -far/2 {
				continue
			}
			g := varied(b, 3)
			m := map[api.Point]int{}
			for p, cell := range plain(g) {
				m[at(p.X+by.X, p.Y+by.Y, p.Z+by.Z)] = cell
			}
			moved := box(b.Min.X+by.X, b.Min.Y+by.Y, b.Min.Z+by.Z, b.Max.X+by.X, b.Max.Y+by.Y, b.Max.Z+by.Z)
			has(t, "P7.4: Shift:", Shift(g, by), moved, m)
		}
		has(t, "P7.4: Shift of the zero grid:", Shift(api.Grid{}, by), api.Box{}, nil)
	}
	g := varied(box(far-2, far-2, -far, far, far, 2-far), 3)
	if h := Shift(Shift(g, at(-2*far+2, 0, 2*far-2)), at(2*far-2, 0, -2*far+2)); !Equal(g, h) {
		t.Error("P7.4: Shift from one bound to the other:", h)
	}
}

func TestTurn(t *testing.T) {
	for _, g := range someGrids() {
		for s := range point.Turns {
			m := map[api.Point]int{}
			for p, cell := range plain(g) {
				m[point.TurnCell(s, p)] = cell
			}
			h := Turn(s, g)
			has(t, "P7.4: Turn:", h, point.TurnBox(s, g.Box), m)
			if len(m) != len(g.Cells) {
				t.Fatal("P7.4: Turn: cells are lost:", g, s)
			}
			if !Equal(Turn(point.Invert(s), h), g) {
				t.Fatal("P7.7: Turn and its inverse:", g, s)
			}
		}
		if !Equal(Turn(0, g), g) {
			t.Error("P7.7: Turn by 0:", g)
		}
		for _, s := range []int{-1, -48, 48, 49, 1 << 40, -1 << 63} {
			if !Equal(Turn(s, g), g) {
				t.Error("P7.4: Turn by a number that is no symmetry:", g, s)
			}
		}
	}
	if g := Turn(1, sample()); g.Box != box(-2, 0, 0, 0, 1, 2) || !slices.Equal(g.Cells, []int{5, 5, 7, 5}) {
		t.Error("P7.4: Turn: the example:", g)
	}
}

// TestMemory changes the results of all calls, and then the arguments: neither may change the other ones.
func TestMemory(t *testing.T) {
	calls := map[string]func(g, h api.Grid, l []api.Change) api.Grid{
		"Set":            func(g, _ api.Grid, _ []api.Change) api.Grid { return Set(g, at(1, 0, 1), 9) },
		"Set, same":      func(g, _ api.Grid, _ []api.Change) api.Grid { return Set(g, at(1, 0, 1), 7) },
		"Set, outside":   func(g, _ api.Grid, _ []api.Change) api.Grid { return Set(g, at(5, 5, 5), 9) },
		"Write":          func(g, _ api.Grid, l []api.Change) api.Grid { return Write(g, l) },
		"Write, nothing": func(g, _ api.Grid, _ []api.Change) api.Grid { return Write(g, nil) },
		"Fill":           func(g, _ api.Grid, _ []api.Change) api.Grid { return Fill(g, box(0, 0, 1, 9, 9, 9), 6) },
		"Fill, nothing":  func(g, _ api.Grid, _ []api.Change) api.Grid { return Fill(g, api.Box{}, 6) },
		"Fill, all":      func(g, _ api.Grid, _ []api.Change) api.Grid { return Fill(g, g.Box, 6) },
		"Paste":          func(g, h api.Grid, _ []api.Change) api.Grid { return Paste(g, h) },
		"Paste, nothing": func(g, _ api.Grid, _ []api.Change) api.Grid { return Paste(g, api.Grid{}) },
		"Paste, same":    func(g, _ api.Grid, _ []api.Change) api.Grid { return Paste(g, g) },
		"Crop":           func(g, _ api.Grid, _ []api.Change) api.Grid { h, _ := Crop(g, box(0, 0, 0, 1, 1, 2)); return h },
		"Crop, same":     func(g, _ api.Grid, _ []api.Change) api.Grid { h, _ := Crop(g, g.Box); return h },
		"Shift":          func(g, _ api.Grid, _ []api.Change) api.Grid { return Shift(g, at(1, 2, 3)) },
		"Shift, nothing": func(g, _ api.Grid, _ []api.Change) api.Grid { return Shift(g, at(0, 0, 0)) },
		"Turn":           func(g, _ api.Grid, _ []api.Change) api.Grid { return Turn(9, g) },
		"Turn, nothing":  func(g, _ api.Grid, _ []api.Change) api.Grid { return Turn(0, g) },
		"Turn, no turn":  func(g, _ api.Grid, _ []api.Change) api.Grid { return Turn(48, g) },
	}
	for name, call := range calls {
		g := sample()
		h := api.Grid{Box: g.Box, Cells: []int{1, 2, 3, 4}}
		l := []api.Change{{At: at(1, 0, 0), Old: 1, New: 2}}
		k := call(g, h, l)
		if !Equal(g, sample()) || !slices.Equal(h.Cells, []int{1, 2, 3, 4}) || l[0] != (api.Change{At: at(1, 0, 0), Old: 1, New: 2}) {
			t.Error("P7.1: an argument was changed:", name, g, h, l)
		}
		want := slices.Clone(k.Cells)
		for i := range g.Cells {
			g.Cells[i], h.Cells[i] = 90+i, 80+i
		}
		if !slices.Equal(k.Cells, want) {
			t.Error("P7.1: the result shares memory:", name)
		}
		for i := range k.Cells[:cap(k.Cells)] {
			k.Cells[:cap(k.Cells)][i] = 70
		}
		if !slices.Equal(g.Cells, []int{90, 91, 92, 93}) || !slices.Equal(h.Cells, []int{80, 81, 82, 83}) {
			t.Error("P7.1: the arguments share memory with the result:", name)
		}
	}
}

func TestLastWriteStands(t *testing.T) {
	g, _ := New(box(-2, -1, 0, 3, 2, 4), 1)
	m := plain(g)
	seed := 1
	next := func(n int) int {
		seed = (seed*1103515245 + 12345) % (1 << 31)
		return seed >> 8 % 8192 % n
	}
	for range 500 {
		p := at(next(9)-4, next(7)-3, next(8)-2)
		b := api.Box{Min: p, Max: at(p.X+next(3), p.Y+next(3), p.Z+next(3))}
		cell := next(256)
		var written []api.Point
		switch next(3) {
		case 0:
			g, written = Set(g, p, cell), []api.Point{p}
		case 1:
			g, written = Fill(g, b, cell), cellsOf(b)
		case 2:
			h, _ := New(b, cell)
			g, written = Paste(g, h), cellsOf(b)
		}
		for _, q := range written {
			if _, is := m[q]; is {
				m[q] = cell
			}
		}
		has(t, "P7.7:", g, box(-2, -1, 0, 3, 2, 4), m)
	}
}
