package grid

import (
	"voxel/api"
	"voxel/point"
)

// Set changes a cell.
func Set(g api.Grid, p api.Point, cell int) api.Grid {
	return changed(g, func(set setter) { set(p, cell) })
}

// Write makes changes.
func Write(g api.Grid, l []api.Change) api.Grid {
	return changed(g, func(set setter) {
		for _, c := range l {
			set(c.At, c.New)
		}
	})
}

// Fill changes the cells of a box.
func Fill(g api.Grid, b api.Box, cell int) api.Grid {
	return changed(g, func(set setter) {
		for p := range places(point.Intersect(g.Box, b)) {
			set(p, cell)
		}
	})
}

// Paste writes the cells of a grid over those of another one.
func Paste(g, h api.Grid) api.Grid {
	return changed(g, func(set setter) {
		for p := range places(point.Intersect(g.Box, h.Box)) {
			set(p, Get(h, p))
		}
	})
}

// Crop returns the cells of a box.
func Crop(g api.Grid, b api.Box) (api.Grid, api.Errno) {
	h, e := New(b, 0)
	if e != api.OK {
		return api.Grid{}, e
	}
	return Paste(h, g), api.OK
}

// Shift moves a grid.
func Shift(g api.Grid, by api.Point) api.Grid {
	h := clone(g)
	if !point.Empty(h.Box) {
		h.Box = point.Shift(h.Box, by)
	}
	return h
}

// Turn turns a grid.
func Turn(s int, g api.Grid) api.Grid {
	turned := api.Grid{Box: point.TurnBox(s, g.Box), Cells: g.Cells}
	return changed(turned, func(set setter) {
		for p, cell := range visit(g) {
			set(point.TurnCell(s, p), cell)
		}
	})
}

// setter sets a cell to a material.
type setter func(p api.Point, cell int)

// changed returns a grid after changes; those of cells outside of its box are left out.
func changed(g api.Grid, change func(set setter)) api.Grid {
	h := clone(g)
	change(func(p api.Point, cell int) {
		if i, is := index(h, p); is {
			h.Cells[i] = cell
		}
	})
	return h
}
