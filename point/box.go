package point

import "voxel/api"

// Near returns the distance of a point from a closed box, or -1 if the box is empty.
func Near(p api.Point, b api.Box) int {
	if Empty(b) {
		return -1
	}
	return Distance(p, greatest(b.Min, least(p, b.Max)))
}

// In reports whether a cell is in a box.
func In(p api.Point, b api.Box) bool {
	return b.Min.X <= p.X && p.X < b.Max.X &&
		b.Min.Y <= p.Y && p.Y < b.Max.Y &&
		b.Min.Z <= p.Z && p.Z < b.Max.Z
}

// Empty reports whether a box is empty: a box with cells has the cell Min.
func Empty(b api.Box) bool { return !In(b.Min, b) }

// Size returns the sizes of a box, zero for an empty one.
func Size(b api.Box) api.Point {
	if Empty(b) {
		return api.Point{}
	}
	return Sub(b.Max, b.Min)
}

// Volume returns the number of cells of a box.
func Volume(b api.Box) int {
	size := Size(b)
	return size.X * size.Y * size.Z
}

// Cube returns a cube at the origin.
func Cube(side int) api.Box {
	return api.Box{Max: api.Point{X: side, Y: side, Z: side}}
}

// Shift moves a box.
func Shift(b api.Box, by api.Point) api.Box {
	return api.Box{Min: Add(b.Min, by), Max: Add(b.Max, by)}
}

// Intersect returns the box of the cells that are in both boxes, the zero box if there is none.
func Intersect(a, b api.Box) api.Box {
	both := api.Box{Min: greatest(a.Min, b.Min), Max: least(a.Max, b.Max)}
	if Empty(both) {
		return api.Box{}
	}
	return both
}

// Hull returns the least box that contains two boxes.
func Hull(a, b api.Box) api.Box {
	switch {
	case Empty(a) && Empty(b):
		return api.Box{}
	case Empty(a):
		return b
	case Empty(b):
		return a
	}
	return api.Box{Min: least(a.Min, b.Min), Max: greatest(a.Max, b.Max)}
}

// Contains reports whether every cell of b is in a.
func Contains(a, b api.Box) bool {
	return Empty(b) || Intersect(a, b) == b
}

// Index returns the number of a cell of a box, or -1 if the cell is not in it.
func Index(b api.Box, p api.Point) int {
	if !In(p, b) {
		return -1
	}
	size, from := Size(b), Sub(p, b.Min)
	return (from.Z*size.Y+from.Y)*size.X + from.X
}

// At returns the cell of a box with a number.
func At(b api.Box, i int) (api.Point, bool) {
	if i < 0 || i >= Volume(b) {
		return api.Point{}, false
	}
	size := Size(b)
	row := i / size.X
	return Add(b.Min, api.Point{X: i % size.X, Y: row % size.Y, Z: row / size.Y}), true
}
