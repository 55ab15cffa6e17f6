package point

import (
	"math"
	"testing"

	"voxel/api"
)

// names returns the names of the symmetries, in the order of their numbers.
func names() []string {
	var list []string
	for _, o := range []string{"xyz", "xzy", "yxz", "yzx", "zxy", "zyx"} {
		for _, z := range "+-" {
			for _, y := range "+-" {
				for _, x := range "+-" {
					list = append(list, string([]byte{byte(x), o[0], byte(y), o[1], byte(z), o[2]}))
				}
			}
		}
	}
	return list
}

// turned returns what a name says about a point.
func turned(name string, p api.Point) api.Point {
	var c [3]int
	for i := range c {
		c[i] = map[byte]int{'x': p.X, 'y': p.Y, 'z': p.Z}[name[2*i+1]]
		if name[2*i] == '-' {
			c[i] = -c[i]
		}
	}
	return at(c[0], c[1], c[2])
}

// turnedCell turns the centre of a cell (two times it, to have integers).
func turnedCell(name string, p api.Point) api.Point {
	c := turned(name, at(2*p.X+1, 2*p.Y+1, 2*p.Z+1))
	return at((c.X-1)/2, (c.Y-1)/2, (c.Z-1)/2)
}

// others returns numbers that are no symmetries.
func others() []int {
	return []int{-1, -8, -48, 48, 49, 56, 1000, math.MinInt, math.MaxInt}
}

func TestTurn(t *testing.T) {
	list := append(around(2), corners()...)
	for s, name := range names() {
		for _, p := range list {
			if q := Turn(s, p); q != turned(name, p) {
				t.Fatal("P4.6: Turn:", s, p, q)
			}
			if q := TurnCell(s, p); q != turnedCell(name, p) {
				t.Fatal("P4.6: TurnCell:", s, p, q)
			}
		}
	}
	for _, s := range others() {
		for _, p := range list {
			if Turn(s, p) != p || TurnCell(s, p) != p {
				t.Fatal("P4.6: no symmetry:", s, p)
			}
		}
	}
}

func TestTurnValues(t *testing.T) {
	p := at(1, 2, 3)
	for _, x := range []struct {
		s             int
		name          string
		point, cell   api.Point
		inverse       int
		isAReflection bool
	}{
		{0, "+x+y+z", at(1, 2, 3), at(1, 2, 3), 0, false},
		{2, "+x-y+z", at(1, -2, 3), at(1, -3, 3), 2, true},
		{3, "-x-y+z", at(-1, -2, 3), at(-2, -3, 3), 3, false},
		{4, "+x+y-z", at(1, 2, -3), at(1, 2, -4), 4, true},
		{8, "+x+z+y", at(1, 3, 2), at(1, 3, 2), 8, true},
		{9, "-x+z+y", at(-1, 3, 2), at(-2, 3, 2), 9, false},
		{10, "+x-z+y", at(1, -3, 2), at(1, -4, 2), 12, false},
		{16, "+y+x+z", at(2, 1, 3), at(2, 1, 3), 16, true},
		{17, "-y+x+z", at(-2, 1, 3), at(-3, 1, 3), 18, false},
		{24, "+y+z+x", at(2, 3, 1), at(2, 3, 1), 32, false},
		{27, "-y-z+x", at(-2, -3, 1), at(-3, -4, 1), 38, false},
		{33, "-z+x+y", at(-3, 1, 2), at(-4, 1, 2), 28, true},
		{40, "+z+y+x", at(3, 2, 1), at(3, 2, 1), 40, true},
		{44, "+z+y-x", at(3, 2, -1), at(3, 2, -2), 41, false},
		{47, "-z-y-x", at(-3, -2, -1), at(-4, -3, -2), 47, false},
	} {
		if q := Turn(x.s, p); q != x.point {
			t.Error("P4.6: Turn:", x.s, q)
		}
		if q := TurnCell(x.s, p); q != x.cell {
			t.Error("P4.6: TurnCell:", x.s, q)
		}
		if s := Invert(x.s); s != x.inverse {
			t.Error("P4.7: Invert:", x.s, s)
		}
		if Mirror(x.s) != x.isAReflection {
			t.Error("P4.7: Mirror:", x.s)
		}
		if name := Name(x.s); name != x.name {
			t.Error("P4.8: Name:", x.s, name)
		}
		if s, is := Find(x.name); s != x.s || !is {
			t.Error("P4.8: Find:", x.name, s, is)
		}
	}
}

func TestTurnBox(t *testing.T) {
	list := append(boxes(-1, 1), box(2, 3, 5, 7, 11, 13), box(-9, -2, 4, -3, 0, 5), box(4, 4, 4, 9, 9, 3))
	for s, name := range names() {
		for _, b := range list {
			var cells []api.Point
			for _, p := range cellsOf(b) {
				cells = append(cells, turnedCell(name, p))
			}
			if c := TurnBox(s, b); c != boxOf(cells) || Volume(c) != len(cells) {
				t.Fatal("P4.6: TurnBox:", s, b, c)
			}
		}
	}
	if b := TurnBox(9, box(0, 0, 0, 2, 1, 3)); b != box(-2, 0, 0, 0, 3, 1) {
		t.Error("P4.6: TurnBox:", b)
	}
	for _, s := range others() {
		for _, b := range []api.Box{Cube(3), box(3, 3, 3, 3, 4, 4), box(5, 6, 7, 1, 2, 3)} {
			if c := TurnBox(s, b); c != b {
				t.Error("P4.6: TurnBox: no symmetry:", s, b, c)
			}
		}
	}
}

func TestCompose(t *testing.T) {
	list := names()
	p := at(3, -50, 700)
	for a := range list {
		for b := range list {
			s := Compose(a, b)
			if s < 0 || s >= 48 {
				t.Fatal("P4.7: Compose:", a, b, s)
			}
			if turned(list[s], p) != turned(list[a], turned(list[b], p)) {
				t.Fatal("P4.7: Compose:", a, b, s)
			}
		}
	}
	for _, x := range [][3]int{{9, 9, 0}, {0, 31, 31}, {1, 9, 8}, {8, 1, 9}, {24, 24, 32}, {16, 8, 32}, {8, 16, 24}, {17, 2, 16}} {
		if s := Compose(x[0], x[1]); s != x[2] {
			t.Error("P4.7: Compose:", x, s)
		}
	}
	for _, n := range others() {
		for _, s := range []int{0, 9, 47, n} {
			if Compose(s, n) != -1 || Compose(n, s) != -1 {
				t.Error("P4.7: Compose: no symmetry:", s, n)
			}
		}
	}
}

func TestInvert(t *testing.T) {
	list := names()
	p := at(3, -50, 700)
	for s := range list {
		i := Invert(s)
		if i < 0 || i >= 48 {
			t.Fatal("P4.7: Invert:", s, i)
		}
		if turned(list[i], turned(list[s], p)) != p {
			t.Fatal("P4.7: Invert:", s, i)
		}
	}
	for _, s := range others() {
		if Invert(s) != -1 {
			t.Error("P4.7: Invert: no symmetry:", s)
		}
	}
}

// determinant returns the determinant of the images of the three axes.
func determinant(name string) int {
	a, b, c := turned(name, at(1, 0, 0)), turned(name, at(0, 1, 0)), turned(name, at(0, 0, 1))
	return a.X*(b.Y*c.Z-b.Z*c.Y) - a.Y*(b.X*c.Z-b.Z*c.X) + a.Z*(b.X*c.Y-b.Y*c.X)
}

func TestMirror(t *testing.T) {
	for s, name := range names() {
		if Mirror(s) != (determinant(name) < 0) {
			t.Error("P4.7: Mirror:", s, name)
		}
	}
	for _, s := range others() {
		if Mirror(s) {
			t.Error("P4.7: Mirror: no symmetry:", s)
		}
	}
}

func TestName(t *testing.T) {
	list := names()
	known := map[string]bool{}
	for s, name := range list {
		known[name] = true
		if n := Name(s); n != name {
			t.Error("P4.8: Name:", s, n)
		}
		if n, is := Find(name); n != s || !is {
			t.Error("P4.8: Find:", name, n, is)
		}
	}
	for _, s := range others() {
		if n := Name(s); n != "" {
			t.Error("P4.8: Name: no symmetry:", s, n)
		}
	}
	for _, name := range nearNames(list, known) {
		if s, is := Find(name); s != 0 || is {
			t.Fatalf("P4.8: Find: no name: %q: %d %v", name, s, is)
		}
	}
}

// nearNames returns texts that are no names: names with a byte changed, removed or added, and others.
func nearNames(list []string, known map[string]bool) []string {
	near := []string{"", "x", "xyz", "+x", "+x+y", "++x+y+z", "+x+x+x", "+x+y+x", "x+y+z+", "+X+Y+Z", "identity", "0", "+x+y+z+x+y+z", "+x +y +z", "\u2212x+y+z"}
	for _, name := range list {
		for i := range name {
			near = append(near, name[:i]+name[i+1:])
			for c := range 256 {
				b := []byte(name)
				b[i] = byte(c)
				if !known[string(b)] {
					near = append(near, string(b))
				}
			}
		}
		for c := range 256 {
			near = append(near, name+string([]byte{byte(c)}), string([]byte{byte(c)})+name)
		}
	}
	return near
}

func TestGroup(t *testing.T) {
	var of [48][48]int
	for a := range of {
		for b := range of {
			of[a][b] = Compose(a, b)
			if Mirror(of[a][b]) != (Mirror(a) != Mirror(b)) {
				t.Fatal("P4.9: Mirror of a composition:", a, b)
			}
		}
	}
	for a := range of {
		if of[a][0] != a || of[0][a] != a || of[a][Invert(a)] != 0 || of[Invert(a)][a] != 0 {
			t.Fatal("P4.9: neutral and inverse:", a)
		}
		for b := range of {
			for c := range of {
				if of[of[a][b]][c] != of[a][of[b][c]] {
					t.Fatal("P4.9: associative:", a, b, c)
				}
			}
		}
	}
}

func TestTurnsKeep(t *testing.T) {
	points := around(2)
	list := []api.Box{{}, Cube(2), box(-1, 0, 1, 2, 1, 2), box(-2, -2, -1, 0, 2, 0), box(1, 0, 0, 0, 2, 2)}
	for s := range 48 {
		for _, p := range points {
			for _, q := range []api.Point{at(0, 0, 0), at(1, -2, 5), at(-7, 3, 2)} {
				d := Distance(p, q)
				if Distance(Turn(s, p), Turn(s, q)) != d || Distance(TurnCell(s, p), TurnCell(s, q)) != d {
					t.Fatal("P4.9: distances:", s, p, q)
				}
			}
			for _, b := range list {
				if In(p, b) != In(TurnCell(s, p), TurnBox(s, b)) {
					t.Fatal("P4.9: cells of boxes:", s, p, b)
				}
			}
			if TurnCell(Invert(s), TurnCell(s, p)) != p || Turn(Invert(s), Turn(s, p)) != p {
				t.Fatal("P4.9: undone:", s, p)
			}
		}
		for _, b := range list {
			if Volume(TurnBox(s, b)) != Volume(b) {
				t.Fatal("P4.9: volumes:", s, b)
			}
		}
	}
}
