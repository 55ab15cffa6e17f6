package octree

import (
	"fmt"
	"slices"
	"testing"

	"voxel/api"
	"voxel/grid"
)

// model is the nodes of some trees by their definition: each has a text, and a number.
type model map[string]int

// name returns the number of the node with a text.
func (m model) name(text string) int {
	if _, is := m[text]; !is {
		m[text] = len(m)
	}
	return m[text]
}

// tree names all nodes of the tree of the cells of a cube, and returns the number of the first one.
func (m model) tree(at api.Point, depth int, cell func(p api.Point) int) int {
	var cells []int
	side := 1 << depth
	for z := range side {
		for y := range side {
			for x := range side {
				cells = append(cells, cell(api.Point{X: at.X + x, Y: at.Y + y, Z: at.Z + z}))
			}
		}
	}
	if slices.Min(cells) == slices.Max(cells) {
		return m.name(fmt.Sprint("uniform ", cells[0]))
	}
	if depth == 2 {
		return m.name(fmt.Sprint("brick ", cells))
	}
	var children [8]int
	for i := range children {
		c := at
		if i%2 == 1 {
			c.X += side / 2
		}
		if i/2%2 == 1 {
			c.Y += side / 2
		}
		if i >= 4 {
			c.Z += side / 2
		}
		children[i] = m.tree(c, depth-1, cell)
	}
	return m.name(fmt.Sprint("inner ", depth, children))
}

// stored names all nodes of a tree of a store, and returns the number of the first one.
func (m model) stored(t *testing.T, s *Store, id int) int {
	t.Helper()
	depth, children, cells := s.Depth(id), s.Children(id), s.Cells(id)
	switch s.Kind(id) {
	case KindUniform:
		if depth != 0 || children != [8]int{} || len(cells) != 1 {
			t.Fatal("P9.7: uniform:", depth, children, cells)
		}
		return m.name(fmt.Sprint("uniform ", cells[0]))
	case KindBrick:
		if depth != 2 || children != [8]int{} || len(cells) != 64 {
			t.Fatal("P9.7: brick:", depth, children, cells)
		}
		return m.name(fmt.Sprint("brick ", cells))
	case KindNode:
		if depth < 3 || depth > 14 || len(cells) != 0 {
			t.Fatal("P9.7: inner:", depth, cells)
		}
		var numbers [8]int
		for i, child := range children {
			numbers[i] = m.stored(t, s, child)
		}
		return m.name(fmt.Sprint("inner ", depth, numbers))
	}
	t.Fatal("P9.7: no kind:", id)
	return -1
}

// of returns a function that tells the cells of a grid.
func of(g api.Grid) func(p api.Point) int {
	return func(p api.Point) int { return grid.Get(g, p) }
}

// random returns a function that answers numbers from 0 to n - 1, always the same ones for a seed.
func random(seed int) func(n int) int {
	return func(n int) int {
		seed = (seed*1103515245 + 12345) % (1 << 31)
		return (seed >> 8) % n
	}
}

// point3 returns a point.
func point3(x, y, z int) api.Point { return api.Point{X: x, Y: y, Z: z} }

// within returns the box between two points.
func within(min, max api.Point) api.Box { return api.Box{Min: min, Max: max} }

// filled returns a grid of one material.
func filled(t *testing.T, b api.Box, cell int) api.Grid {
	t.Helper()
	g, e := grid.New(b, cell)
	if e != api.OK {
		t.Fatal(b, cell, e)
	}
	return g
}

// scene returns a grid within the cube of a depth: some boxes and single cells of a few materials.
func scene(t *testing.T, next func(n int) int, depth int) api.Grid {
	t.Helper()
	side := 1 << depth
	spot := func() api.Point { return point3(next(side), next(side), next(side)) }
	b := within(api.Point{}, point3(side, side, side))
	if next(2) == 0 {
		b.Min = spot()
		b.Max = point3(b.Min.X+1+next(side-b.Min.X), b.Min.Y+1+next(side-b.Min.Y), b.Min.Z+1+next(side-b.Min.Z))
	}
	g := filled(t, b, next(3))
	for range next(4) {
		at := spot()
		size := 1 << next(depth+1)
		g = grid.Fill(g, within(at, point3(at.X+size, at.Y+size, at.Z+size)), next(3)*127)
	}
	for range next(4) {
		g = grid.Set(g, spot(), next(256))
	}
	return g
}

// made checks that a call has made a node.
func made(t *testing.T, id int, e api.Errno) int {
	t.Helper()
	if e != api.OK || id < 0 {
		t.Fatal(id, e)
	}
	return id
}

// refused checks that a call has returned an error, and added nothing to a store of n nodes.
func refused(t *testing.T, s *Store, n int, want api.Errno, id int, e api.Errno) {
	t.Helper()
	if id != 0 || e != want || s.Len() != n {
		t.Error("id", id, "error", e, "want", want, "nodes", s.Len(), "want", n)
	}
}
