package point

import (
	"math"
	"testing"

	"voxel/api"
)

func at(x, y, z int) api.Point { return api.Point{X: x, Y: y, Z: z} }

func box(a, b, c, d, e, f int) api.Box { return api.Box{Min: at(a, b, c), Max: at(d, e, f)} }

// around returns all points with coordinates from -r to r.
func around(r int) []api.Point {
	var list []api.Point
	for z := -r; z <= r; z++ {
		for y := -r; y <= r; y++ {
			for x := -r; x <= r; x++ {
				list = append(list, at(x, y, z))
			}
		}
	}
	return list
}

// corners returns the points with coordinates of -MaxCoord, 0 and MaxCoord.
func corners() []api.Point {
	list := around(1)
	for i, p := range list {
		list[i] = at(p.X*MaxCoord, p.Y*MaxCoord, p.Z*MaxCoord)
	}
	return list
}

func abs(n int) int {
	if n < 0 {
		return -n
	}
	return n
}

func TestConstants(t *testing.T) {
	if MaxCoord != 1048575 || Turns != 48 {
		t.Error("the constants:", MaxCoord, Turns)
	}
}

func TestPoints(t *testing.T) {
	list := append(around(2), corners()...)
	list = append(list, at(17, -400, 9000), at(-5, 77, -1))
	for _, p := range list {
		for _, q := range list {
			if s := Add(p, q); s != at(p.X+q.X, p.Y+q.Y, p.Z+q.Z) {
				t.Fatal("P4.1: Add:", p, q, s)
			}
			if s := Sub(p, q); s != at(p.X-q.X, p.Y-q.Y, p.Z-q.Z) {
				t.Fatal("P4.1: Sub:", p, q, s)
			}
			want := abs(p.X - q.X)
			for _, d := range []int{abs(p.Y - q.Y), abs(p.Z - q.Z)} {
				if d > want {
					want = d
				}
			}
			if d := Distance(p, q); d != want {
				t.Fatal("P4.1: Distance:", p, q, d)
			}
		}
		for _, n := range []int{0, 1, -1, 2, -7, MaxCoord, -MaxCoord} {
			if s := Scale(p, n); s != at(p.X*n, p.Y*n, p.Z*n) {
				t.Fatal("P4.1: Scale:", p, n, s)
			}
		}
	}
}

func TestPointValues(t *testing.T) {
	if s := Add(at(1, -2, 3), at(10, 20, -30)); s != at(11, 18, -27) {
		t.Error("P4.1: Add:", s)
	}
	if s := Sub(at(1, -2, 3), at(10, 20, -30)); s != at(-9, -22, 33) {
		t.Error("P4.1: Sub:", s)
	}
	if s := Scale(at(1, -2, 3), -5); s != at(-5, 10, -15) {
		t.Error("P4.1: Scale:", s)
	}
	if s := Scale(at(MaxCoord, -MaxCoord, 1), MaxCoord); s != at(1099509530625, -1099509530625, 1048575) {
		t.Error("P4.1: Scale: the greatest coordinates:", s)
	}
	for _, x := range []struct {
		p, q api.Point
		d    int
	}{
		{at(1, 2, 3), at(4, 0, 3), 3},
		{at(0, 0, 0), at(-9, 1, 1), 9},
		{at(0, 0, 0), at(1, -9, 1), 9},
		{at(0, 0, 0), at(1, 1, -9), 9},
		{at(-MaxCoord, 0, 0), at(MaxCoord, 0, 0), 2097150},
	} {
		if d := Distance(x.p, x.q); d != x.d {
			t.Error("P4.1: Distance:", x.p, x.q, d)
		}
	}
}

func TestMetric(t *testing.T) {
	list := append(around(1), corners()...)
	for _, p := range list {
		for _, q := range list {
			d := Distance(p, q)
			if d < 0 || (d == 0) != (p == q) || d != Distance(q, p) {
				t.Fatal("P4.10: Distance:", p, q, d)
			}
			for _, r := range list {
				if Distance(p, r) > d+Distance(q, r) {
					t.Fatal("P4.10: the way over a third point is shorter:", p, q, r)
				}
			}
		}
	}
}

// The coordinates here are beyond those for which results are specified: calls only have to return.
func TestBeyond(t *testing.T) {
	values := []int{math.MinInt, math.MinInt + 1, -1, 0, 1, 1 << 21, 1 << 32, math.MaxInt - 1, math.MaxInt}
	for _, a := range values {
		for _, b := range values {
			p, q := at(a, b, 3), at(b, 0, a)
			boxes := []api.Box{{Min: p, Max: q}, box(a, a, a, b, b, b), box(0, 0, 0, a, b, b), Cube(a)}
			Add(p, q)
			Sub(p, q)
			Scale(p, b)
			Distance(p, q)
			for _, c := range boxes {
				callAll(c, p, a, b)
			}
		}
	}
}

func callAll(b api.Box, p api.Point, n, m int) {
	Near(p, b)
	In(p, b)
	Empty(b)
	Size(b)
	Volume(b)
	Shift(b, p)
	Intersect(b, Cube(n))
	Hull(b, Cube(m))
	Contains(b, Cube(n))
	Index(b, p)
	Index(b, b.Min)
	for _, i := range []int{0, 1, n, m} {
		At(b, i)
	}
	for s := -1; s <= Turns; s++ {
		Turn(s, p)
		TurnCell(s, p)
		TurnBox(s, b)
	}
	Compose(n, m)
	Invert(n)
	Mirror(n)
	Name(n)
}
