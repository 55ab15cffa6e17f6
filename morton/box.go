package morton

import "voxel/api"

// octants is the number of children of a cube.
const octants = 1 << axes

// Cubes divides a box into the greatest aligned cubes.
func Cubes(b api.Box) ([]api.Cube, api.Errno) {
	var list []api.Cube
	var collect func(c api.Cube) bool
	collect = func(c api.Cube) bool {
		meets, within := overlap(c, b)
		switch {
		case !meets:
			return true
		case within:
			list = append(list, c)
			return len(list) <= MaxCubes
		}
		for octant := range octants {
			if !collect(child(c, octant)) {
				return false
			}
		}
		return true
	}
	if !collect(whole()) {
		return nil, api.ErrLimit
	}
	return list, api.OK
}

// Runs divides a box into the longest runs of codes.
func Runs(b api.Box) ([]api.Run, api.Errno) {
	cubes, e := Cubes(b)
	if e != api.OK {
		return nil, e
	}
	var list []api.Run
	for _, c := range cubes {
		r := run(c)
		if last := len(list) - 1; last >= 0 && list[last].Last+1 == r.First {
			list[last].Last = r.Last
		} else {
			list = append(list, r)
		}
	}
	return list, api.OK
}

// Next returns the least code of a cell of a box, from a number on, or -1 if there is none.
func Next(b api.Box, n int) int {
	var find func(c api.Cube) int
	find = func(c api.Cube) int {
		meets, within := overlap(c, b)
		if !meets {
			return -1
		}
		r := run(c)
		switch {
		case r.Last < n:
			return -1
		case within:
			return max(r.First, n)
		}
		for octant := range octants {
			if code := find(child(c, octant)); code >= 0 {
				return code
			}
		}
		return -1
	}
	return find(whole())
}

// whole returns the cube of all cells.
func whole() api.Cube { return api.Cube{Level: levels} }

func child(c api.Cube, octant int) api.Cube {
	level := c.Level - 1
	at := coordinates(c.At)
	for axis := range at {
		at[axis] += (octant >> axis & 1) << level
	}
	return api.Cube{At: point(at), Level: level}
}

// overlap reports whether cells of a cube are in a box, and whether all are. A cube of one cell
// has both or none of it.
func overlap(c api.Cube, b api.Box) (meets, within bool) {
	lo, hi := coordinates(b.Min), coordinates(b.Max)
	meets, within = true, true
	for axis, from := range coordinates(c.At) {
		to := from + 1<<c.Level
		meets = meets && max(from, lo[axis]) < min(to, hi[axis])
		within = within && lo[axis] <= from && to <= hi[axis]
	}
	return meets, within
}

// run returns the codes of the cells of a cube.
func run(c api.Cube) api.Run {
	first := Encode(c.At)
	return api.Run{First: first, Last: first + 1<<(axes*c.Level) - 1}
}
