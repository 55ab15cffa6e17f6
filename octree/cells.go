package octree

import (
	"slices"

	"voxel/api"
	"voxel/grid"
	"voxel/point"
)

// From makes the tree with the cells of a grid.
func (s *Store) From(g api.Grid, depth int) (int, api.Errno) {
	switch {
	case !deep(depth):
		return 0, api.ErrDepth
	case !grid.Valid(g) || !point.Contains(box(cube(depth)), g.Box):
		return 0, api.ErrArg
	}
	var build func(c api.Cube) (int, api.Errno)
	build = func(c api.Cube) (int, api.Errno) {
		switch {
		case point.Empty(point.Intersect(box(c), g.Box)):
			return s.Uniform(0)
		case c.Level == api.BrickDepth:
			return s.Brick(crop(g, box(c)).Cells)
		}
		var children [8]int
		for i := range children {
			id, e := build(eighth(c, i))
			if e != api.OK {
				return 0, e
			}
			children[i] = id
		}
		return s.Inner(c.Level, children)
	}
	return s.whole(func() (int, api.Errno) { return build(cube(depth)) })
}

// Get returns a cell.
func (s *Store) Get(id, depth int, p api.Point) int {
	if !s.cell(id, depth, p) {
		return 0
	}
	n := s.node(s.down(id, depth, api.BrickDepth, p))
	if n.kind == KindUniform {
		return int(n.cells[0])
	}
	return int(n.cells[place(p)])
}

// Set makes the tree with another cell.
func (s *Store) Set(id, depth int, p api.Point, cell int) (int, api.Errno) {
	if !s.cell(id, depth, p) || !material(cell) {
		return 0, api.ErrArg
	}
	var set func(id, depth int) (int, api.Errno)
	set = func(id, depth int) (int, api.Errno) {
		if depth == api.BrickDepth {
			cells := s.brick(id)
			cells[place(p)] = cell
			return s.Brick(cells)
		}
		children, i := s.eighths(id), octant(p, depth)
		child, e := set(children[i], depth-1)
		if e != api.OK {
			return 0, e
		}
		children[i] = child
		return s.Inner(depth, children)
	}
	return s.whole(func() (int, api.Errno) { return set(id, depth) })
}

// Grid returns the cells of a box.
func (s *Store) Grid(id, depth int, b api.Box) (api.Grid, api.Errno) {
	g, e := grid.New(b, 0)
	switch {
	case e != api.OK:
		return api.Grid{}, e
	case !deep(depth) || !s.fits(id, depth):
		return api.Grid{}, api.ErrArg
	}
	var write func(id int, c api.Cube)
	write = func(id int, c api.Cube) {
		part := point.Intersect(box(c), g.Box)
		if point.Empty(part) {
			return
		}
		switch s.Kind(id) {
		case KindUniform:
			cells, _ := grid.New(part, s.Cells(id)[0]) // part is no greater than the box of g
			paste(g, cells)
		case KindBrick:
			paste(g, api.Grid{Box: box(c), Cells: s.Cells(id)})
		default:
			for i, child := range s.Children(id) {
				write(child, eighth(c, i))
			}
		}
	}
	write(id, cube(depth))
	return g, api.OK
}

// Part returns the node of a cube within the tree.
func (s *Store) Part(id, depth int, at api.Point, level int) (int, api.Errno) {
	if !s.cell(id, depth, at) || !deep(level) || level > depth || (at.X|at.Y|at.Z)%(1<<level) != 0 {
		return 0, api.ErrArg
	}
	return s.down(id, depth, level, at), api.OK
}

// whole makes a tree, or nothing: what was added before an error is removed.
func (s *Store) whole(build func() (int, api.Errno)) (int, api.Errno) {
	n := s.Len()
	id, e := build()
	if e != api.OK {
		s.Trim(n)
	}
	return id, e
}

// cell reports whether a point is in the cube of a depth, and a node stands for it.
func (s *Store) cell(id, depth int, p api.Point) bool {
	return deep(depth) && s.fits(id, depth) && point.In(p, box(cube(depth)))
}

// down returns the node of the cube of the depth level with a cell: a uniform node, if it
// lies in one.
func (s *Store) down(id, depth, level int, p api.Point) int {
	for ; depth > level && s.Kind(id) == KindNode; depth-- {
		id = s.Children(id)[octant(p, depth)]
	}
	return id
}

// eighths returns the nodes of the eighths of a cube that is greater than a brick.
func (s *Store) eighths(id int) [8]int {
	if s.Kind(id) == KindUniform {
		return same(id)
	}
	return s.Children(id)
}

// brick returns the cells of a cube of the size of a brick.
func (s *Store) brick(id int) []int {
	if s.Kind(id) == KindUniform {
		return slices.Repeat(s.Cells(id), api.BrickCells)
	}
	return s.Cells(id)
}

// deep reports whether a cube can have a depth.
func deep(depth int) bool { return depth >= api.BrickDepth && depth <= api.MaxDepth }

// cube returns the cube of a depth.
func cube(depth int) api.Cube { return api.Cube{Level: depth} }

// box returns the box of a cube.
func box(c api.Cube) api.Box { return point.Shift(point.Cube(1<<c.Level), c.At) }

// eighth returns the cube that the child i of the node of a cube stands for.
func eighth(c api.Cube, i int) api.Cube {
	side := api.Point{X: i & 1, Y: i >> 1 & 1, Z: i >> 2 & 1}
	half := c.Level - 1
	return api.Cube{At: point.Add(c.At, point.Scale(side, 1<<half)), Level: half}
}

// octant returns the number of the eighth of a cube of a depth with a cell.
func octant(p api.Point, depth int) int {
	half := depth - 1
	return p.X>>half&1 + p.Y>>half&1<<1 + p.Z>>half&1<<2
}

// place returns the number of a cell among those of its brick.
func place(p api.Point) int {
	return point.Index(point.Cube(api.BrickSide), api.Point{X: p.X % api.BrickSide, Y: p.Y % api.BrickSide, Z: p.Z % api.BrickSide})
}

// crop returns the cells of a box that is not too great for a grid: 0 outside of g.
func crop(g api.Grid, b api.Box) api.Grid {
	h, _ := grid.New(b, 0)
	paste(h, g)
	return h
}

// paste writes the cells of a grid over those of g itself, row by row: package grid would
// copy all cells of g for each node.
func paste(g, h api.Grid) {
	part := point.Intersect(g.Box, h.Box)
	width := point.Size(part).X
	for z := part.Min.Z; z < part.Max.Z; z++ {
		for y := part.Min.Y; y < part.Max.Y; y++ {
			row := api.Point{X: part.Min.X, Y: y, Z: z}
			to, from := point.Index(g.Box, row), point.Index(h.Box, row)
			copy(g.Cells[to:to+width], h.Cells[from:])
		}
	}
}
