package grid

import (
	"math"
	"slices"
	"testing"

	"voxel/api"
	"voxel/point"
)

func at(x, y, z int) api.Point { return api.Point{X: x, Y: y, Z: z} }

func box(a, b, c, d, e, f int) api.Box { return api.Box{Min: at(a, b, c), Max: at(d, e, f)} }

const far = 1<<20 - 1 // the greatest coordinate

// cellsOf returns the cells of a box by its definition, in the order of their numbers.
func cellsOf(b api.Box) []api.Point {
	var list []api.Point
	for z := b.Min.Z; z < b.Max.Z; z++ {
		for y := b.Min.Y; y < b.Max.Y; y++ {
			for x := b.Min.X; x < b.Max.X; x++ {
				list = append(list, at(x, y, z))
			}
		}
	}
	return list
}

// plain is a grid as the materials of its cells by their places.
func plain(g api.Grid) map[api.Point]int {
	m := map[api.Point]int{}
	for i, p := range cellsOf(g.Box) {
		m[p] = g.Cells[i]
	}
	return m
}

// has checks that a grid is valid, and has the cells of a box with the materials of a map, zero for those that it does not contain.
func has(t *testing.T, what string, g api.Grid, b api.Box, m map[api.Point]int) {
	t.Helper()
	var want []int
	for _, p := range cellsOf(b) {
		want = append(want, m[p])
	}
	if len(want) == 0 {
		b = api.Box{}
	}
	if !Valid(g) || g.Box != b || !slices.Equal(g.Cells, want) {
		t.Fatal(what, g, "want", b, want)
	}
}

// varied returns a grid whose cells have different materials, others for each seed; 0 and 255 are among them.
func varied(b api.Box, seed int) api.Grid {
	g := api.Grid{Box: b}
	for range cellsOf(b) {
		seed = (seed*1103515245 + 12345) % (1 << 31)
		g.Cells = append(g.Cells, []int{0, 1, 2, 3, 255}[seed>>8%5])
	}
	if len(g.Cells) == 0 {
		return api.Grid{}
	}
	return g
}

// someBoxes returns boxes that have nothing, a part or all in common with each other; empty ones, and ones at the bounds of the coordinates among them.
func someBoxes() []api.Box {
	return []api.Box{
		{},
		box(5, 5, 5, 5, 5, 5),
		box(1, 1, 1, 3, 3, 0),
		box(3, 0, 0, -3, 9, 9),
		box(0, 0, 0, 1, 1, 1),
		box(0, 0, 0, 3, 4, 5),
		box(-2, -3, -4, 1, 1, 1),
		box(-1, -1, -1, 2, 3, 4),
		box(-9, 1, 1, 9, 2, 2),
		box(1, -9, 2, 2, 9, 3),
		box(2, 1, -9, 3, 2, 9),
		box(1, 1, 1, 2, 3, 3),
		box(4, 0, 0, 6, 2, 2),
		box(far-2, far-1, far-3, far, far, far),
		box(-far, -far, -far, 3-far, 2-far, 1-far),
		box(far-1, -far, 0, far, 1-far, 1),
	}
}

// someGrids returns grids with these boxes.
func someGrids() []api.Grid {
	var list []api.Grid
	for i, b := range someBoxes() {
		list = append(list, varied(b, i))
	}
	return append(list, api.Grid{Cells: []int{}})
}

// pointsNear returns the cells of a box, some around it, and some at the bounds of the coordinates.
func pointsNear(b api.Box) []api.Point {
	list := cellsOf(box(b.Min.X-1, b.Min.Y-1, b.Min.Z-1, b.Max.X+1, b.Max.Y+1, b.Max.Z+1))
	return append(list, at(0, 0, 0), at(far, far, far), at(-far, -far, -far), at(far, 0, 0), at(0, -far, 0))
}

// sample is the grid of the chapter's examples.
func sample() api.Grid { return api.Grid{Box: box(0, 0, 0, 2, 1, 2), Cells: []int{5, 5, 5, 7}} }

// badBoxes returns boxes with a coordinate that is too great or too small; empty ones among them.
func badBoxes() []api.Box {
	var list []api.Box
	for _, c := range []int{far + 1, -far - 1, 1 << 40, -1 << 40, math.MaxInt, math.MinInt} {
		list = append(list, box(c, 0, 0, 1, 1, 1), box(0, c, 0, 1, 1, 1), box(0, 0, c, 1, 1, 1), box(0, 0, 0, c, 1, 1), box(0, 0, 0, 1, c, 1), box(0, 0, 0, 1, 1, c), box(c, c, c, c, c, c))
	}
	return append(list, box(far, 0, 0, far+1, 1, 1), box(-far-1, 0, 0, -far, 1, 1), box(math.MinInt, math.MinInt, math.MinInt, math.MaxInt, math.MaxInt, math.MaxInt), box(-1<<31, -1<<31, 0, 1<<31, 1<<31, 1))
}

// greatBoxes returns boxes with more than 2^21 cells.
func greatBoxes() []api.Box {
	return []api.Box{
		box(0, 0, 0, 129, 128, 128),
		box(0, 0, 0, 128, 129, 128),
		box(-1, -1, -1, 127, 127, 128),
		box(0, 0, 0, 699051, 3, 1), // 2^21 + 1 cells
		box(0, 0, 0, 1<<19, 5, 1),
		box(-far, 0, 0, far, 1, 2),
		box(-far, 0, 0, far, 2, 1),
		box(0, 0, 0, 200, 200, 200),
		box(-far, -far, -far, far, far, far),
	}
}

func TestValid(t *testing.T) {
	one := []int{0}
	for _, g := range someGrids() {
		if !Valid(g) {
			t.Error("P7.1: not valid:", g)
		}
	}
	for _, b := range []api.Box{box(0, 0, 0, 1, 1, 1), box(far-1, far-1, far-1, far, far, far), box(-far, -far, -far, 1-far, 1-far, 1-far)} {
		for _, cell := range []int{0, 1, 128, 255} {
			if !Valid(api.Grid{Box: b, Cells: []int{cell}}) {
				t.Error("P7.1: not valid:", b, cell)
			}
		}
		for _, cell := range []int{-1, 256, 257, math.MinInt, math.MaxInt} {
			if Valid(api.Grid{Box: b, Cells: []int{cell}}) {
				t.Error("P7.1: valid:", b, cell)
			}
		}
		if Valid(api.Grid{Box: b}) || Valid(api.Grid{Box: b, Cells: []int{0, 0}}) {
			t.Error("P7.1: valid with another number of cells:", b)
		}
	}
	for _, b := range badBoxes() {
		for _, n := range []int{0, 1} {
			if Valid(api.Grid{Box: b, Cells: one[:n]}) {
				t.Error("P7.1: valid:", b, n)
			}
		}
	}
	for _, b := range []api.Box{box(1, 1, 1, 1, 1, 1), box(0, 0, 0, 1, 1, 0), box(0, 0, 0, -1, 0, 0), box(0, 0, 0, -1, -1, 1), box(3, 0, 0, 2, 9, 9)} {
		if Valid(api.Grid{Box: b}) || Valid(api.Grid{Box: b, Cells: one}) {
			t.Error("P7.1: valid with an empty box:", b)
		}
	}
	if Valid(api.Grid{Cells: one}) {
		t.Error("P7.1: valid: the zero box with a cell")
	}
	for i := range 24 {
		g := varied(box(0, 0, 0, 2, 3, 4), 1)
		g.Cells[i] = 256 - 257*(i%2)
		if Valid(g) {
			t.Error("P7.1: valid: the cell", i)
		}
	}
}

func TestMaxGrid(t *testing.T) {
	for _, b := range []api.Box{box(0, 0, 0, 128, 128, 128), box(-64, 0, 7, 64, 1<<14, 8), box(0, 0, far-8, 1<<18, 1, far)} {
		g, e := New(b, 9)
		if e != api.OK || g.Box != b || len(g.Cells) != 1<<21 || Count(g, 9) != 1<<21 || !Valid(g) {
			t.Error("P7.2: the greatest grid:", b, e, len(g.Cells))
		}
		h, e := Crop(Shift(g, at(1, 0, 0)), b)
		if e != api.OK || h.Box != b || len(h.Cells) != 1<<21 || Count(h, 0) != point.Size(b).Y*point.Size(b).Z {
			t.Error("P7.4: Crop to the greatest grid:", b, e, len(h.Cells))
		}
	}
	if b := box(0, 0, 0, 1<<19, 5, 1); Valid(api.Grid{Box: b, Cells: make([]int, point.Volume(b))}) {
		t.Error("P7.1: valid with more than 2^21 cells")
	}
	if b := box(0, 0, 0, 1, 5, 1<<19); Valid(api.Grid{Box: b, Cells: make([]int, 1<<21)}) {
		t.Error("P7.1: valid with a part of the cells")
	}
}

func TestNew(t *testing.T) {
	for _, b := range someBoxes() {
		for _, cell := range []int{0, 1, 200, 255} {
			g, e := New(b, cell)
			m := map[api.Point]int{}
			for _, p := range cellsOf(b) {
				m[p] = cell
			}
			has(t, "P7.2:", g, b, m)
			if e != api.OK {
				t.Error("P7.2:", b, cell, e)
			}
		}
	}
	refuses := func(b api.Box, cell int, want api.Errno) {
		t.Helper()
		if g, e := New(b, cell); e != want || g.Box != (api.Box{}) || len(g.Cells) != 0 {
			t.Error("P7.2:", b, cell, g.Box, len(g.Cells), e)
		}
	}
	for _, cell := range []int{-1, 256, 1000, math.MinInt, math.MaxInt} {
		for _, b := range append(append(someBoxes(), greatBoxes()...), badBoxes()...) {
			refuses(b, cell, api.ErrArg)
		}
	}
	for _, cell := range []int{0, 255} {
		for _, b := range greatBoxes() {
			refuses(b, cell, api.ErrLimit)
		}
		for _, b := range badBoxes() {
			refuses(b, cell, api.ErrArg)
		}
	}
}

func TestGet(t *testing.T) {
	for _, g := range someGrids() {
		m := plain(g)
		for _, p := range pointsNear(g.Box) {
			if n := Get(g, p); n != m[p] {
				t.Fatal("P7.3: Get:", g, p, n)
			}
		}
	}
	if g := sample(); Get(g, at(1, 0, 1)) != 7 || Get(g, at(2, 0, 0)) != 0 {
		t.Error("P7.3: Get: the examples")
	}
}

func TestEqual(t *testing.T) {
	grids := someGrids()
	for i, g := range grids {
		for j, h := range grids {
			want := i == j || len(g.Cells) == 0 && len(h.Cells) == 0
			if Equal(g, h) != want {
				t.Error("P7.5: Equal:", g, h)
			}
		}
		if !Equal(g, api.Grid{Box: g.Box, Cells: slices.Clone(g.Cells)}) {
			t.Error("P7.5: Equal: a copy:", g)
		}
		for k := range g.Cells {
			h := api.Grid{Box: g.Box, Cells: slices.Clone(g.Cells)}
			h.Cells[k] ^= 1
			if Equal(g, h) || Equal(h, g) {
				t.Error("P7.5: Equal: the cell", k, g)
			}
		}
	}
	g := sample()
	for _, b := range []api.Box{box(0, 0, 0, 2, 2, 1), box(0, 0, 0, 4, 1, 1), box(0, 1, 0, 2, 2, 2), {}} {
		if h := (api.Grid{Box: b, Cells: g.Cells}); Equal(g, h) || Equal(h, g) {
			t.Error("P7.5: Equal: the same cells in another box:", b)
		}
	}
}

func TestCount(t *testing.T) {
	for _, g := range someGrids() {
		for _, cell := range []int{0, 1, 2, 3, 4, 255, 256, -1, math.MinInt, math.MaxInt} {
			want := 0
			for _, c := range plain(g) {
				if c == cell {
					want++
				}
			}
			if n := Count(g, cell); n != want {
				t.Error("P7.5: Count:", g, cell, n)
			}
		}
	}
	if g := sample(); Count(g, 5) != 3 || Count(g, 7) != 1 || Count(g, 0) != 0 {
		t.Error("P7.5: Count: the examples")
	}
}

func TestDiff(t *testing.T) {
	grids := someGrids()
	for i, g := range grids {
		for j, h := range append(grids, varied(g.Box, 100+i), Turn(3, g)) {
			var want []api.Change
			m := plain(h)
			for k, p := range cellsOf(g.Box) {
				if cell, is := m[p]; is && cell != g.Cells[k] {
					want = append(want, api.Change{At: p, Old: g.Cells[k], New: cell})
				}
			}
			l := Diff(g, h)
			if !slices.Equal(l, want) {
				t.Fatal("P7.5: Diff:", i, j, l, "want", want)
			}
			if !Equal(Write(g, l), Paste(g, h)) {
				t.Fatal("P7.7: Write of Diff:", i, j)
			}
			for k := range l {
				l[k].Old = 99
			}
			if !Equal(Write(g, l), Paste(g, h)) {
				t.Fatal("P7.3: Write: Old matters:", i, j)
			}
		}
		if l := Diff(g, g); len(l) != 0 {
			t.Error("P7.5: Diff: the same grid:", l)
		}
	}
	g := sample()
	want := []api.Change{{At: at(0, 0, 1), Old: 5, New: 6}, {At: at(1, 0, 1), Old: 7, New: 6}}
	if l := Diff(g, Fill(g, box(0, 0, 1, 9, 9, 9), 6)); !slices.Equal(l, want) {
		t.Error("P7.5: Diff: the example:", l)
	}
}

func TestEach(t *testing.T) {
	for _, g := range someGrids() {
		each := Each(g)
		if each == nil {
			t.Fatal("P7.6: nil:", g)
		}
		for range 2 {
			var points []api.Point
			var cells []int
			for p, cell := range each {
				points, cells = append(points, p), append(cells, cell)
			}
			if !slices.Equal(points, cellsOf(g.Box)) || !slices.Equal(cells, g.Cells) {
				t.Fatal("P7.6:", g, points, cells)
			}
			for i, p := range points {
				if point.Index(g.Box, p) != i {
					t.Fatal("P7.6: the order:", g, i, p)
				}
			}
		}
	}
}

func TestLeaveEach(t *testing.T) {
	g := varied(box(-1, 2, 0, 2, 4, 4), 7)
	each := Each(g)
	for stop := range len(g.Cells) {
		n := 0
		each(func(p api.Point, cell int) bool {
			if n > stop || cell != g.Cells[n] {
				t.Fatal("P7.6: after it was left:", stop, n, p)
			}
			n++
			return n <= stop
		})
		if n != stop+1 {
			t.Fatal("P7.6: left at", stop, n)
		}
	}
	n := 0
	for p, cell := range each {
		for q := range each {
			if q == p {
				break
			}
			n++
		}
		if cell != Get(g, p) {
			t.Fatal("P7.6: within itself:", p, cell)
		}
	}
	if n != 24*23/2 {
		t.Error("P7.6: within itself:", n)
	}
}

func TestMemoryOfEach(t *testing.T) {
	g := sample()
	each := Each(g)
	g.Cells[0], g.Box = 9, point.Cube(1)
	var cells []int
	for _, cell := range each {
		g.Cells[3]++
		cells = append(cells, cell)
	}
	if !slices.Equal(cells, sample().Cells) {
		t.Error("P7.1: Each shares memory:", cells)
	}
}

// TestGridsThatAreNotValid checks only that the calls return.
func TestGridsThatAreNotValid(t *testing.T) {
	all := box(math.MinInt, math.MinInt, math.MinInt, math.MaxInt, math.MaxInt, math.MaxInt)
	list := []api.Grid{{Cells: []int{1}}, {Box: box(0, 0, 0, 2, 2, 2), Cells: []int{1, 256, -1}}, {Box: box(0, 0, 0, 1, 1, 1), Cells: []int{1, 2, 3}}, {Box: all, Cells: []int{4}}, {Box: box(3, 3, 3, 1, 9, 9), Cells: []int{5}}}
	for _, b := range append(badBoxes(), box(0, 0, 0, 1<<19, 5, 1), box(-far, -far, -far, far, far, far)) {
		list = append(list, api.Grid{Box: b, Cells: []int{1, 2}})
	}
	points := []api.Point{at(0, 0, 0), at(1, 1, 1), at(-1, 0, 0), all.Min, all.Max}
	for _, g := range list {
		for _, p := range points {
			_, _, _ = Get(g, p), Set(g, p, 1), Shift(g, p)
		}
		for _, h := range list {
			_, _, _, _ = Paste(g, h), Diff(g, h), Equal(g, h), Fill(g, h.Box, -5)
			if _, e := Crop(g, h.Box); e == api.OK {
				_ = Write(g, Diff(h, g))
			}
		}
		for s := -1; s <= point.Turns; s++ {
			_ = Turn(s, g)
		}
		n := 0
		for range Each(g) {
			n++
		}
		if n > len(g.Cells) {
			t.Error("P7.6: more than the cells:", g, n)
		}
	}
}
