package point

import (
	"math/bits"

	"voxel/api"
)

// signs is the number of ways to negate some of the axes.
const signs = 8

// orders are the orders of the axes: the number of a symmetry is that of its order times signs,
// and a bit for each coordinate that it negates.
var orders = [...]string{"xyz", "xzy", "yxz", "yzx", "zxy", "zyx"}

// Turn returns a point turned by a symmetry.
func Turn(s int, p api.Point) api.Point {
	return turn(s, p, func(c int) int { return -c })
}

// TurnCell returns a cell turned by a symmetry: the points of the cell c, from c to c + 1,
// are negated to those from -1 - c to -c.
func TurnCell(s int, p api.Point) api.Point {
	return turn(s, p, func(c int) int { return -1 - c })
}

// TurnBox returns a box turned by a symmetry.
func TurnBox(s int, b api.Box) api.Box {
	switch {
	case !symmetry(s):
		return b
	case Empty(b):
		return api.Box{}
	}
	p, q := Turn(s, b.Min), Turn(s, b.Max)
	return api.Box{Min: least(p, q), Max: greatest(p, q)}
}

// turn moves the coordinates of p to their places, and negates those that the symmetry negates.
func turn(s int, p api.Point, negate func(c int) int) api.Point {
	if !symmetry(s) {
		return p
	}
	from := [3]int{p.X, p.Y, p.Z}
	var to [3]int
	for i, axis := range orders[s/signs] {
		to[i] = from[axis-'x']
		if negates(s, i) {
			to[i] = negate(to[i])
		}
	}
	return api.Point{X: to[0], Y: to[1], Z: to[2]}
}

// Compose returns the symmetry that turns by b, and then by a.
func Compose(a, b int) int {
	if !symmetry(a) || !symmetry(b) {
		return -1
	}
	p := probe()
	q := Turn(a, Turn(b, p))
	return first(func(s int) bool { return Turn(s, p) == q })
}

// Invert returns the symmetry that undoes another one.
func Invert(s int) int {
	if !symmetry(s) {
		return -1
	}
	p := probe()
	q := Turn(s, p)
	return first(func(s int) bool { return Turn(s, q) == p })
}

// Mirror reports whether a symmetry is a reflection.
func Mirror(s int) bool {
	if !symmetry(s) {
		return false
	}
	n := bits.OnesCount(uint(s % signs))
	order := orders[s/signs]
	for i := range order {
		for j := range i {
			if order[j] > order[i] {
				n++
			}
		}
	}
	return n%2 == 1
}

// Name returns the name of a symmetry, or the empty string for a number that is none.
func Name(s int) string {
	if !symmetry(s) {
		return ""
	}
	name := ""
	for i, axis := range orders[s/signs] {
		sign := "+"
		if negates(s, i) {
			sign = "-"
		}
		name += sign + string(axis)
	}
	return name
}

// Find returns the symmetry with a name.
func Find(name string) (int, bool) {
	s := first(func(s int) bool { return Name(s) == name })
	return max(s, 0), s >= 0
}

// first returns the first symmetry that fits, or -1.
func first(fits func(s int) bool) int {
	for s := range Turns {
		if fits(s) {
			return s
		}
	}
	return -1
}

// probe returns a point that every symmetry turns to another place.
func probe() api.Point { return api.Point{X: 1, Y: 2, Z: 3} }

func symmetry(s int) bool { return s >= 0 && s < Turns }

// negates reports whether a symmetry negates a coordinate of its result.
func negates(s, coordinate int) bool { return s>>coordinate&1 == 1 }
