package point

import (
	"testing"

	"voxel/api"
)

// boxes returns all boxes whose corners have coordinates from lo to hi, the empty ones among them.
func boxes(lo, hi int) []api.Box {
	var list []api.Box
	n := hi - lo + 1
	for code := range n * n * n * n * n * n {
		var c [6]int
		for i := range c {
			c[i] = lo + code%n
			code /= n
		}
		list = append(list, box(c[0], c[1], c[2], c[3], c[4], c[5]))
	}
	return list
}

// cellsOf returns the cells of a box by its definition, in the order of their numbers.
func cellsOf(b api.Box) []api.Point {
	var list []api.Point
	for z := b.Min.Z; z < b.Max.Z; z++ {
		for y := b.Min.Y; y < b.Max.Y; y++ {
			for x := b.Min.X; x < b.Max.X; x++ {
				list = append(list, at(x, y, z))
			}
		}
	}
	return list
}

// boxOf returns the least box of cells, the zero box for none.
func boxOf(cells []api.Point) api.Box {
	if len(cells) == 0 {
		return api.Box{}
	}
	b := api.Box{Min: cells[0], Max: cells[0]}
	for _, p := range cells {
		b.Min = at(min(b.Min.X, p.X), min(b.Min.Y, p.Y), min(b.Min.Z, p.Z))
		b.Max = at(max(b.Max.X, p.X), max(b.Max.Y, p.Y), max(b.Max.Z, p.Z))
	}
	b.Max = at(b.Max.X+1, b.Max.Y+1, b.Max.Z+1)
	return b
}

func contains(cells []api.Point, p api.Point) bool {
	for _, q := range cells {
		if p == q {
			return true
		}
	}
	return false
}

func TestBoxes(t *testing.T) {
	for _, b := range boxes(-1, 2) {
		cells := cellsOf(b)
		if Empty(b) != (len(cells) == 0) {
			t.Fatal("P4.2: Empty:", b)
		}
		if n := Volume(b); n != len(cells) {
			t.Fatal("P4.2: Volume:", b, n)
		}
		want := at(b.Max.X-b.Min.X, b.Max.Y-b.Min.Y, b.Max.Z-b.Min.Z)
		if len(cells) == 0 {
			want = at(0, 0, 0)
		}
		if s := Size(b); s != want {
			t.Fatal("P4.2: Size:", b, s)
		}
		if c := Shift(b, at(5, -3, 100)); c != box(b.Min.X+5, b.Min.Y-3, b.Min.Z+100, b.Max.X+5, b.Max.Y-3, b.Max.Z+100) {
			t.Fatal("P4.2: Shift:", b, c)
		}
	}
}

func TestIn(t *testing.T) {
	points := around(2)
	for _, b := range boxes(-1, 1) {
		cells := cellsOf(b)
		for _, p := range points {
			if In(p, b) != contains(cells, p) {
				t.Fatal("P4.2: In:", p, b)
			}
		}
	}
}

func TestCube(t *testing.T) {
	for _, side := range []int{0, 1, 4, -3, MaxCoord, -MaxCoord} {
		if b := Cube(side); b != box(0, 0, 0, side, side, side) {
			t.Error("P4.2: Cube:", side, b)
		}
	}
	if !Empty(Cube(0)) || !Empty(Cube(-3)) || Empty(Cube(1)) {
		t.Error("P4.2: Cube: empty")
	}
}

func TestGreatBoxes(t *testing.T) {
	all := box(-MaxCoord, -MaxCoord, -MaxCoord, MaxCoord, MaxCoord, MaxCoord)
	const side = 2097150
	const volume = side * side * side
	last := at(MaxCoord-1, MaxCoord-1, MaxCoord-1)
	if Empty(all) || Size(all) != at(side, side, side) || Volume(all) != volume || !In(all.Min, all) || !In(last, all) || In(all.Max, all) {
		t.Error("P4.2: the greatest box:", Size(all), Volume(all))
	}
	if Intersect(all, Cube(7)) != Cube(7) || Hull(Cube(7), all) != all || !Contains(all, Cube(7)) || Contains(Cube(7), all) || !Contains(all, all) {
		t.Error("P4.3: the greatest box")
	}
	if Near(at(MaxCoord, 0, 0), box(-MaxCoord, 0, 0, 1-MaxCoord, 1, 1)) != side-1 {
		t.Error("P4.4: the greatest distance")
	}
	for _, x := range []struct {
		p api.Point
		i int
	}{
		{all.Min, 0},
		{at(MaxCoord-1, -MaxCoord, -MaxCoord), side - 1},
		{at(-MaxCoord, 1-MaxCoord, -MaxCoord), side},
		{at(-MaxCoord, -MaxCoord, 1-MaxCoord), side * side},
		{at(0, 0, 0), 1048575 + 1048575*side + 1048575*side*side},
		{last, volume - 1},
	} {
		if i := Index(all, x.p); i != x.i {
			t.Error("P4.5: Index of the greatest box:", x.p, i)
		}
		if p, is := At(all, x.i); p != x.p || !is {
			t.Error("P4.5: At of the greatest box:", x.i, p, is)
		}
	}
	if p, is := At(all, volume); p != at(0, 0, 0) || is {
		t.Error("P4.5: At: beyond the greatest box:", p, is)
	}
	if TurnBox(7, box(-MaxCoord, 0, 1, MaxCoord, 5, MaxCoord)) != box(-MaxCoord, -5, -MaxCoord, MaxCoord, 0, -1) {
		t.Error("P4.6: the greatest box")
	}
}

// pairs calls f with every box of a short list and every box of a long one, and their cells.
func pairs(f func(a, b api.Box, ca, cb []api.Point)) {
	all := boxes(-1, 1)
	few := []api.Box{{}, box(-1, -1, -1, 1, 1, 1), box(0, 0, 0, 1, 1, 1), box(-1, 0, -1, 1, 1, 0), box(1, 1, 1, -1, 0, 0), box(0, -1, 0, 1, 1, -1),
		box(-2, -2, -2, 3, 3, 3), box(1, 1, 1, 2, 2, 2), box(-5, 0, 0, 5, 1, 1), box(0, -5, 0, 1, 5, 1), box(0, 0, -5, 1, 1, 5), box(2, 2, 2, 0, 5, 5)}
	for _, a := range few {
		ca := cellsOf(a)
		for _, b := range all {
			cb := cellsOf(b)
			f(a, b, ca, cb)
			f(b, a, cb, ca)
		}
	}
}

func TestIntersect(t *testing.T) {
	pairs(func(a, b api.Box, ca, cb []api.Point) {
		var both []api.Point
		for _, p := range ca {
			if contains(cb, p) {
				both = append(both, p)
			}
		}
		c := Intersect(a, b)
		if c != boxOf(both) || Volume(c) != len(both) {
			t.Fatal("P4.3, P4.10: Intersect:", a, b, c)
		}
		if Contains(a, b) != (len(both) == len(cb)) || Contains(a, b) != (Volume(c) == Volume(b)) {
			t.Fatal("P4.3, P4.10: Contains:", a, b)
		}
	})
}

func TestHull(t *testing.T) {
	pairs(func(a, b api.Box, ca, cb []api.Point) {
		want := boxOf(append(append([]api.Point(nil), ca...), cb...))
		if c := Hull(a, b); c != want {
			t.Fatal("P4.3: Hull:", a, b, c)
		}
	})
}

func TestTwoBoxes(t *testing.T) {
	none := box(7, 7, 7, 7, 8, 8)
	for _, x := range []struct {
		a, b, both, hull api.Box
		contains         bool
	}{
		{Cube(4), box(2, -1, 3, 9, 1, 9), box(2, 0, 3, 4, 1, 4), box(0, -1, 0, 9, 4, 9), false},
		{box(5, 5, 5, 9, 9, 9), box(6, 7, 8, 9, 9, 9), box(6, 7, 8, 9, 9, 9), box(5, 5, 5, 9, 9, 9), true},
		{box(5, 5, 5, 9, 9, 9), box(9, 5, 5, 11, 9, 9), box(0, 0, 0, 0, 0, 0), box(5, 5, 5, 11, 9, 9), false},
		{box(5, 5, 5, 9, 9, 9), none, box(0, 0, 0, 0, 0, 0), box(5, 5, 5, 9, 9, 9), true},
		{none, box(5, 5, 5, 9, 9, 9), box(0, 0, 0, 0, 0, 0), box(5, 5, 5, 9, 9, 9), false},
		{none, none, box(0, 0, 0, 0, 0, 0), box(0, 0, 0, 0, 0, 0), true},
		{box(1, 2, 3, 4, 5, 6), box(2, 3, 4, 9, 4, 5), box(2, 3, 4, 4, 4, 5), box(1, 2, 3, 9, 5, 6), false},
	} {
		if c := Intersect(x.a, x.b); c != x.both {
			t.Error("P4.3: Intersect:", x.a, x.b, c)
		}
		if c := Hull(x.a, x.b); c != x.hull {
			t.Error("P4.3: Hull:", x.a, x.b, c)
		}
		if Contains(x.a, x.b) != x.contains {
			t.Error("P4.3: Contains:", x.a, x.b)
		}
	}
}

func TestNear(t *testing.T) {
	points := around(3)
	for _, b := range boxes(-1, 1) {
		for _, p := range points {
			want := -1
			if len(cellsOf(b)) > 0 {
				closed := box(b.Min.X, b.Min.Y, b.Min.Z, b.Max.X+1, b.Max.Y+1, b.Max.Z+1)
				for _, q := range cellsOf(closed) {
					d := max(abs(p.X-q.X), abs(p.Y-q.Y), abs(p.Z-q.Z))
					if want < 0 || d < want {
						want = d
					}
				}
			}
			if d := Near(p, b); d != want {
				t.Fatal("P4.4:", p, b, d)
			}
		}
	}
	for _, x := range []struct {
		p api.Point
		b api.Box
		d int
	}{
		{at(9, 0, 0), Cube(4), 5},
		{at(4, 4, 4), Cube(4), 0},
		{at(3, 2, 1), Cube(4), 0},
		{at(-20, 300, -7), Cube(4), 296},
		{at(3, 3, 3), box(3, 3, 3, 3, 4, 4), -1},
		{at(0, 0, 0), box(9, 9, 9, 1, 1, 1), -1},
	} {
		if d := Near(x.p, x.b); d != x.d {
			t.Error("P4.4:", x.p, x.b, d)
		}
	}
}

func TestNumbers(t *testing.T) {
	for _, b := range []api.Box{Cube(1), Cube(3), box(1, 1, 1, 3, 4, 5), box(-3, 2, -7, 2, 3, -1), box(-1, -1, -1, 0, 6, 1), box(4, -5, 0, 11, -3, 2)} {
		cells := cellsOf(b)
		for i, p := range cells {
			if n := Index(b, p); n != i {
				t.Fatal("P4.5: Index:", b, p, n)
			}
			if q, is := At(b, i); q != p || !is {
				t.Fatal("P4.5: At:", b, i, q, is)
			}
		}
		for _, i := range []int{-1, -2, -1 << 63, len(cells), len(cells) + 1, 1<<63 - 1} {
			if p, is := At(b, i); p != at(0, 0, 0) || is {
				t.Fatal("P4.5: At: no number of a cell:", b, i, p, is)
			}
		}
		outside := []api.Point{b.Max}
		for _, p := range []api.Point{at(1, 0, 0), at(0, 1, 0), at(0, 0, 1)} {
			outside = append(outside, at(b.Min.X-p.X, b.Min.Y-p.Y, b.Min.Z-p.Z),
				at(b.Max.X-1+p.X, b.Max.Y-1+p.Y, b.Max.Z-1+p.Z))
		}
		for _, p := range outside {
			if n := Index(b, p); n != -1 {
				t.Fatal("P4.5: Index: outside:", b, p, n)
			}
		}
	}
}

func TestNumbersOfEmptyBoxes(t *testing.T) {
	for _, b := range []api.Box{{}, box(1, 1, 1, 1, 5, 5), box(3, 0, 0, 1, 5, 5), box(0, 5, 5, 9, 3, 3), box(0, 0, 4, 9, 9, 4)} {
		for i := -2; i <= 2; i++ {
			if p, is := At(b, i); p != at(0, 0, 0) || is {
				t.Error("P4.5: At: an empty box:", b, i, p, is)
			}
		}
		for _, p := range []api.Point{b.Min, b.Max, at(0, 0, 0), at(2, 2, 2), at(1, 4, 4)} {
			if n := Index(b, p); n != -1 {
				t.Error("P4.5: Index: an empty box:", b, p, n)
			}
		}
	}
}
