package octree

import (
	"math"
	"slices"
	"testing"

	"voxel/api"
	"voxel/grid"
	"voxel/point"
)

// TestFrom checks P9.3 and P9.9: trees of grids have the nodes of their definition, no others are added, and equal cells have one id.
func TestFrom(t *testing.T) {
	next := random(1)
	for depth := 2; depth <= 5; depth++ {
		s, nodes, ids := New(1000000), model{}, map[int]int{}
		for range 25 {
			g := scene(t, next, depth)
			before := slices.Clone(g.Cells)
			id, e := s.From(g, depth)
			made(t, id, e)
			name := nodes.tree(api.Point{}, depth, of(g))
			if got := nodes.stored(t, s, id); got != name {
				t.Fatal("P9.3: another tree:", depth, g.Box)
			}
			if s.Len() != len(nodes) {
				t.Fatal("P9.3: nodes:", depth, s.Len(), len(nodes))
			}
			if old, is := ids[name]; is && old != id {
				t.Error("P9.9: two ids of equal cells:", depth)
			}
			ids[name] = id
			if !slices.Equal(g.Cells, before) {
				t.Error("P9.3: the argument is changed")
			}
			again, e := s.From(widen(t, g, depth), depth)
			if again != id || e != api.OK || s.Len() != len(nodes) {
				t.Error("P9.9: the same cells in a greater box:", depth, again, id, e)
			}
		}
		if different := distinct(ids); different != len(ids) {
			t.Error("P9.9: one id of different cells:", depth, different, len(ids))
		}
	}
}

// widen returns the grid of the whole cube with the cells of a grid.
func widen(t *testing.T, g api.Grid, depth int) api.Grid {
	t.Helper()
	h, e := grid.Crop(g, point.Cube(1<<depth))
	if e != api.OK {
		t.Fatal(e)
	}
	return h
}

// distinct counts the different values of a map.
func distinct(m map[int]int) int {
	seen := map[int]bool{}
	for _, id := range m {
		seen[id] = true
	}
	return len(seen)
}

// TestFromGreat checks P9.3 for cubes that are too great for grids.
func TestFromGreat(t *testing.T) {
	for depth := 8; depth <= 14; depth++ {
		s := New(1000)
		last := 1<<depth - 1
		p := point3(last, 0, last-4)
		id, e := s.From(filled(t, within(p, point.Add(p, point3(1, 1, 1))), 3), depth)
		made(t, id, e)
		if s.Len() != depth || s.Depth(id) != depth {
			t.Error("P9.3: a brick, the inner nodes above it and air:", depth, s.Len())
		}
		for _, x := range []struct {
			p    api.Point
			want int
		}{{p, 3}, {point3(last, 1, last-4), 0}, {point3(last, 0, last-3), 0}, {point3(last-1, 0, last-4), 0}, {point3(0, last, 0), 0}, {point3(last+1, 0, last-4), 0}} {
			if cell := s.Get(id, depth, x.p); cell != x.want {
				t.Error("P9.4:", depth, x.p, cell, x.want)
			}
		}
		empty, e := s.From(api.Grid{}, depth)
		if u, _ := s.Uniform(0); empty != u || e != api.OK || s.Len() != depth {
			t.Error("P9.3: the zero grid:", depth, empty, e)
		}
	}
}

// TestFromErrors checks the errors of From (P9.3), and their order.
func TestFromErrors(t *testing.T) {
	one := filled(t, within(api.Point{}, point3(1, 1, 1)), 1)
	s := New(1)
	for _, depth := range []int{math.MinInt, -1, 0, 1, 15, 64, math.MaxInt} {
		for _, g := range []api.Grid{{}, one, {Cells: []int{1}}} {
			id, e := s.From(g, depth)
			refused(t, s, 0, api.ErrDepth, id, e)
		}
	}
	for _, g := range []api.Grid{
		{Cells: []int{1}},
		{Box: one.Box},
		{Box: one.Box, Cells: []int{256}},
		{Box: one.Box, Cells: []int{-1}},
		{Box: within(point3(1, 1, 1), point3(1, 2, 2))},
		filled(t, within(point3(-1, 0, 0), point3(1, 1, 1)), 0),
		filled(t, within(point3(0, 0, -1), point3(1, 1, 1)), 1),
		filled(t, within(point3(7, 0, 0), point3(9, 1, 1)), 1),
		filled(t, within(point3(0, 7, 0), point3(1, 9, 1)), 1),
		filled(t, within(point3(0, 0, 8), point3(1, 1, 9)), 0),
	} {
		id, e := s.From(g, 3)
		refused(t, s, 0, api.ErrArg, id, e)
	}
	id, e := s.From(one, 3)
	refused(t, s, 0, api.ErrBricks, id, e)
}

// TestFull checks P9.1, P9.3 and P9.4 (T10): a tree is made if there is room for its new nodes, and otherwise nothing is.
func TestFull(t *testing.T) {
	next := random(2)
	for range 20 {
		g, h := scene(t, next, 4), scene(t, next, 4)
		nodes := model{}
		nodes.tree(api.Point{}, 4, of(g))
		first := len(nodes)
		nodes.tree(api.Point{}, 4, of(h))
		for most := first; most <= len(nodes); most++ {
			s := New(most)
			id, e := s.From(g, 4)
			made(t, id, e)
			digest := s.Digest(id)
			other, e := s.From(h, 4)
			if most < len(nodes) {
				refused(t, s, first, api.ErrBricks, other, e)
			} else {
				made(t, other, e)
			}
			if again, e := s.From(g, 4); again != id || e != api.OK || s.Digest(id) != digest {
				t.Fatal("P9.3: what was there before:", again, e)
			}
		}
	}
}

// TestGet checks Get (P9.4) for all cells of a cube and around it.
func TestGet(t *testing.T) {
	next := random(3)
	for depth := 2; depth <= 4; depth++ {
		for range 10 {
			s := New(100000)
			g := scene(t, next, depth)
			id, e := s.From(g, depth)
			made(t, id, e)
			around := filled(t, within(point3(-2, -2, -2), point3(1<<depth+2, 1<<depth+2, 1<<depth+2)), 0)
			for p := range grid.Each(around) {
				if cell := s.Get(id, depth, p); cell != grid.Get(g, p) {
					t.Fatal("P9.4:", depth, p, cell, grid.Get(g, p))
				}
			}
		}
	}
	s := New(10)
	u, e := s.Uniform(7)
	made(t, u, e)
	for _, far := range []int{math.MinInt, -1, 16384, math.MaxInt} {
		for _, p := range []api.Point{point3(far, 0, 0), point3(0, far, 0), point3(0, 0, far)} {
			if cell := s.Get(u, 14, p); cell != 0 {
				t.Error("P9.4:", p, cell)
			}
		}
	}
	if s.Get(u, 14, point3(16383, 16383, 0)) != 7 || s.Get(u, 2, point3(3, 3, 3)) != 7 || s.Get(u, 2, point3(4, 3, 3)) != 0 {
		t.Error("P9.4: a uniform cube")
	}
}

// TestSet checks P9.4, P9.9 and P9.10: one cell is changed, the tree is that of From, and what was made before stays.
func TestSet(t *testing.T) {
	next := random(4)
	for depth := 2; depth <= 4; depth++ {
		for range 6 {
			s, nodes := New(1000000), model{}
			g := widen(t, scene(t, next, depth), depth)
			id, e := s.From(g, depth)
			made(t, id, e)
			nodes.tree(api.Point{}, depth, of(g))
			for range 25 {
				p, cell := point3(next(1<<depth), next(1<<depth), next(1<<depth)), next(3)
				h := grid.Set(g, p, cell)
				old := nodes.stored(t, s, id)
				with, e := s.Set(id, depth, p, cell)
				made(t, with, e)
				if nodes.stored(t, s, with) != nodes.tree(api.Point{}, depth, of(h)) || s.Len() != len(nodes) {
					t.Fatal("P9.4: another tree, or other nodes:", depth, p, cell, s.Len(), len(nodes))
				}
				if from, e := s.From(h, depth); from != with || e != api.OK {
					t.Fatal("P9.9: two ids of equal cells:", from, with, e)
				}
				if (with == id) != (grid.Get(g, p) == cell) {
					t.Error("P9.4: the same id:", with, id, grid.Get(g, p), cell)
				}
				if nodes.stored(t, s, id) != old {
					t.Fatal("P9.9: the old tree is changed")
				}
				if back, e := s.Set(with, depth, p, grid.Get(g, p)); back != id || e != api.OK || s.Len() != len(nodes) {
					t.Fatal("P9.10: the old material:", back, id, e)
				}
				id, g = with, h
			}
		}
	}
}

// TestSetGreat checks P9.4 in the greatest cube: a cell of a uniform one, and all cells of a brick.
func TestSetGreat(t *testing.T) {
	s := New(1000)
	u, e := s.Uniform(4)
	made(t, u, e)
	last := point3(16383, 16383, 16383)
	id, e := s.Set(u, 14, last, 5)
	made(t, id, e)
	if s.Len() != 14 || s.Get(id, 14, last) != 5 || s.Get(id, 14, point3(16382, 16383, 16383)) != 4 {
		t.Error("P9.4:", s.Len())
	}
	for i := range 64 {
		p, _ := point.At(within(point3(16380, 16380, 16380), point3(16384, 16384, 16384)), i)
		id, e = s.Set(id, 14, p, 5)
		made(t, id, e)
	}
	part, e := s.Part(id, 14, point3(16380, 16380, 16380), 2)
	if v, _ := s.Uniform(5); part != v || e != api.OK {
		t.Error("P9.4: a brick that has become uniform:", part, v, e)
	}
	if id, e := s.Set(u, 2, point3(3, 0, 0), 9); e != api.OK || s.Kind(id) != KindBrick || s.Cells(id)[3] != 9 {
		t.Error("P9.4: a uniform cube of the depth 2:", id, e)
	}
}

// TestSetErrors checks the errors of Set (P9.4).
func TestSetErrors(t *testing.T) {
	s := New(5)
	u, e := s.Uniform(0)
	made(t, u, e)
	a, e := s.Set(u, 3, point3(1, 2, 3), 5)
	made(t, a, e)
	for _, c := range []int{math.MinInt, -1, 8, math.MaxInt} {
		for _, p := range []api.Point{point3(c, 0, 0), point3(0, c, 0), point3(0, 0, c)} {
			id, e := s.Set(a, 3, p, 0)
			refused(t, s, 3, api.ErrArg, id, e)
		}
	}
	for _, cell := range []int{math.MinInt, -1, 256, math.MaxInt} {
		for _, tree := range []int{a, u} {
			id, e := s.Set(tree, 3, point3(0, 0, 0), cell)
			refused(t, s, 3, api.ErrArg, id, e)
		}
	}
	id, e := s.Set(u, 5, point3(1, 2, 3), 6) // a brick and three inner nodes
	refused(t, s, 3, api.ErrBricks, id, e)
	if _, e := s.Set(a, 3, point3(1, 2, 3), 6); e != api.OK || s.Len() != 5 {
		t.Error("P9.4:", e, s.Len())
	}
	if id, e := s.Set(a, 3, point3(1, 2, 3), 5); id != a || e != api.OK {
		t.Error("P9.4: the same material in a full store:", id, e)
	}
}

// TestGrid checks P9.5.
func TestGrid(t *testing.T) {
	next := random(6)
	for depth := 2; depth <= 5; depth++ {
		for range 10 {
			s := New(100000)
			g := scene(t, next, depth)
			id, e := s.From(g, depth)
			made(t, id, e)
			n := s.Len()
			for range 12 {
				spot := func() int { return next(3<<depth) - 1<<depth }
				from := point3(spot(), spot(), spot())
				b := within(from, point.Add(from, point3(next(2<<depth), next(2<<depth), next(2<<depth))))
				got, e := s.Grid(id, depth, b)
				want, f := grid.Crop(g, b)
				if !grid.Equal(got, want) || e != f || s.Len() != n {
					t.Fatal("P9.5:", depth, b, e, f)
				}
				for i := range got.Cells {
					got.Cells[i] = 99
				}
			}
			if got, e := s.Grid(id, depth, point.Cube(1<<depth)); e != api.OK || !grid.Equal(got, widen(t, g, depth)) {
				t.Fatal("P9.5: the whole cube:", depth, e)
			}
		}
	}
}

// TestGridErrors checks the errors of Grid (P9.5).
func TestGridErrors(t *testing.T) {
	s := New(10)
	u, e := s.Uniform(3)
	made(t, u, e)
	for _, b := range []api.Box{
		{},
		within(point3(1, 1, 1), point3(1, 9, 9)),
		within(point3(5, 5, 5), point3(4, 4, 4)),
		within(point3(-1<<20, 0, 0), point3(1, 1, 1)),
		within(point3(0, 0, 0), point3(1, 1, math.MaxInt)),
		within(point3(math.MinInt, 0, 0), point3(math.MinInt, 0, 0)),
		within(point3(0, 0, 0), point3(129, 128, 128)),
		within(point3(0, 0, 0), point3(16384, 128, 2)),
		within(point3(-1<<20+1, 0, 0), point3(1<<20-1, 2, 1)),
		within(point3(16383, 16383, 16383), point3(16385, 16385, 16385)),
	} {
		want, f := grid.New(b, 0)
		got, e := s.Grid(u, 14, b)
		if e != f || got.Box != want.Box || len(got.Cells) != len(want.Cells) {
			t.Error("P9.5:", b, e, f)
		}
	}
	g, e := s.Grid(u, 14, within(point3(0, 0, 0), point3(128, 128, 128)))
	if e != api.OK || grid.Count(g, 3) != api.MaxGrid {
		t.Error("P9.5: the greatest grid:", e, grid.Count(g, 3))
	}
}

// TestPart checks P9.6: a part is the tree of its cells, which is there already.
func TestPart(t *testing.T) {
	next := random(7)
	for depth := 2; depth <= 5; depth++ {
		for range 10 {
			s := New(100000)
			g := scene(t, next, depth)
			id, e := s.From(g, depth)
			made(t, id, e)
			for level := 2; level <= depth; level++ {
				for p := range grid.Each(filled(t, point.Cube(1<<(depth-level)), 0)) {
					at := point.Scale(p, 1<<level)
					n := s.Len()
					part, e := s.Part(id, depth, at, level)
					made(t, part, e)
					cells, e := s.Grid(id, depth, point.Shift(point.Cube(1<<level), at))
					if e != api.OK || s.Len() != n {
						t.Fatal("P9.6:", e, s.Len(), n)
					}
					want, e := s.From(grid.Shift(cells, point.Scale(at, -1)), level)
					if part != want || e != api.OK {
						t.Fatal("P9.6:", depth, level, at, part, want, e)
					}
				}
			}
		}
	}
}

// TestPartErrors checks the errors of Part (P9.6).
func TestPartErrors(t *testing.T) {
	s := New(100)
	u, e := s.Uniform(0)
	made(t, u, e)
	id, e := s.Set(u, 4, point3(1, 2, 3), 5)
	made(t, id, e)
	n := s.Len()
	for _, level := range []int{math.MinInt, -1, 0, 1, 5, 14, 64, math.MaxInt} {
		part, e := s.Part(id, 4, api.Point{}, level)
		refused(t, s, n, api.ErrArg, part, e)
	}
	for level := 2; level <= 4; level++ {
		for _, c := range []int{math.MinInt, -16, -4, -1, 1, 2, 3, 1<<level - 1, 1 << level / 2, 1<<level + 1, 16, 32, math.MaxInt} {
			for _, at := range []api.Point{point3(c, 0, 0), point3(0, c, 0), point3(0, 0, c)} {
				if c >= 0 && c < 16 && c%(1<<level) == 0 {
					continue
				}
				part, e := s.Part(id, 4, at, level)
				refused(t, s, n, api.ErrArg, part, e)
			}
		}
	}
	if part, e := s.Part(u, 14, point3(16380, 0, 4), 2); part != u || e != api.OK {
		t.Error("P9.6: a part of a uniform cube:", part, e)
	}
	if part, e := s.Part(id, 4, api.Point{}, 4); part != id || e != api.OK {
		t.Error("P9.6: the whole cube:", part, e)
	}
}

// TestExamples checks the examples of the chapter, but for the last one, which TestLimit has.
func TestExamples(t *testing.T) {
	s := New(100)
	u, e := s.Uniform(0)
	made(t, u, e)
	v, e := s.Uniform(7)
	made(t, v, e)
	if u == v || s.Len() != 2 {
		t.Error("P9.1:", u, v, s.Len())
	}
	id, e := s.From(filled(t, within(point3(1, 2, 3), point3(2, 3, 4)), 5), 3)
	made(t, id, e)
	children := s.Children(id)
	if s.Len() != 4 || s.Kind(id) != KindNode || s.Kind(children[0]) != KindBrick || children != [8]int{children[0], u, u, u, u, u, u, u} {
		t.Error("P9.3:", s.Len(), children)
	}
	if again, e := s.Set(id, 3, point3(1, 2, 3), 0); again != u || e != api.OK {
		t.Error("P9.4:", again, e)
	}
	if part, e := s.Part(id, 3, point3(4, 0, 0), 2); part != u || e != api.OK || s.Depth(id) != 3 {
		t.Error("P9.6:", part, e, s.Depth(id))
	}
}

// TestShared checks that calls for a few cells do not visit all parts of a tree, which stands for more cells than anybody can visit (P1).
func TestShared(t *testing.T) {
	s := New(100)
	id, e := s.Brick(striped(0, 1))
	for depth := 3; depth <= 14; depth++ {
		id, e = s.Inner(depth, same(made(t, id, e)))
	}
	made(t, id, e)
	p := point3(12345, 54, 6543)
	g, e := s.Grid(id, 14, within(p, point.Add(p, point3(4, 1, 1))))
	if e != api.OK || !slices.Equal(g.Cells, []int{1, 0, 1, 0}) || s.Get(id, 14, p) != 1 {
		t.Error("P9.5:", g, e)
	}
	other, e := s.Set(id, 14, p, 0)
	if e != api.OK || s.Len() != 26 || s.Get(other, 14, p) != 0 || s.Get(id, 14, p) != 1 {
		t.Error("P9.4:", e, s.Len())
	}
}
