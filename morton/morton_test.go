package morton

import (
	"math"
	"strconv"
	"testing"

	"voxel/api"
)

const last = Side - 1 // the greatest coordinate of a point inside

func at(x, y, z int) api.Point { return api.Point{X: x, Y: y, Z: z} }

// codeOf writes the bits of a code, the highest ones first, as the chapter defines them; -1 if the point is not inside.
func codeOf(p api.Point) int {
	if p.X < 0 || p.X > 16383 || p.Y < 0 || p.Y > 16383 || p.Z < 0 || p.Z > 16383 {
		return -1
	}
	text := ""
	for bit := 16384 / 2; bit > 0; bit /= 2 {
		for _, c := range []int{p.Z, p.Y, p.X} {
			text += strconv.Itoa(c / bit % 2)
		}
	}
	n, err := strconv.ParseInt(text, 2, 64)
	if err != nil {
		panic(err)
	}
	return int(n)
}

// grid returns all points whose coordinates are in a list.
func grid(list []int) []api.Point {
	var points []api.Point
	for _, z := range list {
		for _, y := range list {
			for _, x := range list {
				points = append(points, at(x, y, z))
			}
		}
	}
	return points
}

// insides returns points inside: near the corners of the cube of all cells and of its greatest children, and others.
func insides() []api.Point {
	points := grid([]int{0, 1, 2, 3, 8191, 8192, last - 1, last})
	for bit := 1; bit < Side; bit *= 2 {
		points = append(points, at(bit, 0, 0), at(0, bit, 0), at(0, 0, bit), at(last-bit, last, last), at(last, last-bit, last), at(last, last, last-bit))
	}
	return append(points, at(3, 5, 1), at(4, 5, 1), at(10922, 5461, 10922), at(1234, 15999, 7))
}

// outsides returns points that are not inside because of one coordinate, or of all.
func outsides() []api.Point {
	var points []api.Point
	for _, c := range []int{-1, Side, Side + 1, -Side, 1 << 20, 1 << 21, 1 << 42, -1 << 42, math.MinInt, math.MaxInt} {
		points = append(points, at(c, 0, 0), at(0, c, 0), at(0, 0, c), at(c, 3, last), at(last, c, 3), at(3, last, c), at(c, c, c))
	}
	return points
}

// notCodes returns numbers that are no codes.
func notCodes() []int {
	return []int{-1, -2, -8, math.MinInt, math.MinInt + 1, 1 << 42, 1<<42 + 1, 1 << 43, 1 << 45, math.MaxInt}
}

func TestConstants(t *testing.T) {
	if Side != 16384 || MaxCubes != 4096 {
		t.Error("the constants:", Side, MaxCubes)
	}
}

func TestEncode(t *testing.T) {
	for _, x := range []struct {
		p api.Point
		n int
	}{
		{at(0, 0, 0), 0},
		{at(1, 0, 0), 1},
		{at(0, 1, 0), 2},
		{at(0, 0, 1), 4},
		{at(2, 0, 0), 8},
		{at(0, 2, 0), 16},
		{at(0, 0, 2), 32},
		{at(3, 5, 1), 143},
		{at(8192, 0, 0), 1 << 39},
		{at(0, 8192, 0), 1 << 40},
		{at(0, 0, 8192), 1 << 41},
		{at(last, last, last), 1<<42 - 1},
	} {
		if n := Encode(x.p); n != x.n {
			t.Error("P5.1: Encode:", x.p, n)
		}
		if p, is := Decode(x.n); p != x.p || !is {
			t.Error("P5.1: Decode:", x.n, p, is)
		}
	}
	for _, p := range insides() {
		n := Encode(p)
		if n != codeOf(p) {
			t.Error("P5.1: Encode:", p, n)
		}
		if q, is := Decode(n); q != p || !is {
			t.Error("P5.1: Decode:", n, q, is)
		}
	}
	for _, p := range outsides() {
		if n := Encode(p); n != -1 {
			t.Error("P5.1: Encode: not inside:", p, n)
		}
	}
}

func TestDecode(t *testing.T) {
	codes := []int{1<<41 - 1, 1 << 41, 0x15555555555, 0x2aaaaaaaaaa, 1<<42 - 2}
	for n := range 5000 {
		codes = append(codes, n, n*879609301%(1<<42))
	}
	for _, n := range codes {
		if p, is := Decode(n); !is || codeOf(p) != n || Encode(p) != n {
			t.Fatal("P5.1: Decode:", n, p, is)
		}
	}
	for _, n := range notCodes() {
		if p, is := Decode(n); p != at(0, 0, 0) || is {
			t.Error("P5.1: Decode: no code:", n, p, is)
		}
	}
}

func TestCompare(t *testing.T) {
	points := append(grid([]int{-1, 0, 1, 2, 3, 8192, last, Side}), outsides()...)
	for _, a := range points {
		for _, b := range points {
			want := 0
			if m, n := codeOf(a), codeOf(b); m < n {
				want = -1
			} else if m > n {
				want = 1
			}
			if c := Compare(a, b); c != want {
				t.Fatal("P5.2:", a, b, c)
			}
		}
	}
	for _, x := range []struct {
		a, b api.Point
		want int
	}{
		{at(1, 0, 0), at(0, 1, 0), -1},
		{at(last, last, 0), at(0, 0, 1), 1},
		{at(8191, 8191, 8191), at(8192, 0, 0), -1},
		{at(-1, 0, 0), at(0, 0, 0), -1},
		{at(-5, 2, 2), at(math.MaxInt, 0, 0), 0},
		{at(0, 0, 0), at(0, Side, 0), 1},
		{at(9, 8, 7), at(9, 8, 7), 0},
	} {
		if c := Compare(x.a, x.b); c != x.want {
			t.Error("P5.2:", x.a, x.b, c)
		}
	}
}

func TestOctant(t *testing.T) {
	for _, p := range insides() {
		size := 1
		for level := range 14 {
			want := p.X/size%2 + 2*(p.Y/size%2) + 4*(p.Z/size%2)
			if n := Octant(p, level); n != want {
				t.Fatal("P5.3:", p, level, n)
			}
			size *= 2
		}
		for _, level := range []int{-1, 14, 15, 63, 64, -64, math.MinInt, math.MaxInt} {
			if n := Octant(p, level); n != -1 {
				t.Fatal("P5.3: no such level:", p, level, n)
			}
		}
	}
	for _, p := range outsides() {
		for _, level := range []int{-1, 0, 5, 13, 14} {
			if n := Octant(p, level); n != -1 {
				t.Error("P5.3: not inside:", p, level, n)
			}
		}
	}
	for level, want := range []int{7, 1, 2, 0} {
		if n := Octant(at(3, 5, 1), level); n != want {
			t.Error("P5.3:", level, n)
		}
	}
}

func TestNeighbour(t *testing.T) {
	for _, p := range insides() {
		n := codeOf(p)
		for axis, step := range []api.Point{at(1, 0, 0), at(0, 1, 0), at(0, 0, 1)} {
			above := codeOf(at(p.X+step.X, p.Y+step.Y, p.Z+step.Z))
			if m := Neighbour(n, axis, true); m != above {
				t.Fatal("P5.4: upward:", p, axis, m)
			}
			below := codeOf(at(p.X-step.X, p.Y-step.Y, p.Z-step.Z))
			if m := Neighbour(n, axis, false); m != below {
				t.Fatal("P5.4: downward:", p, axis, m)
			}
		}
		for _, axis := range []int{-1, 3, 4, math.MinInt, math.MaxInt} {
			if Neighbour(n, axis, true) != -1 || Neighbour(n, axis, false) != -1 {
				t.Fatal("P5.4: no axis:", p, axis)
			}
		}
	}
	for _, n := range notCodes() {
		for axis := -1; axis <= 3; axis++ {
			if Neighbour(n, axis, true) != -1 || Neighbour(n, axis, false) != -1 {
				t.Error("P5.4: no code:", n, axis)
			}
		}
	}
	if Neighbour(143, 0, true) != 198 || Neighbour(198, 0, false) != 143 || Neighbour(0, 2, false) != -1 || Neighbour(1<<42-1, 1, true) != -1 {
		t.Error("P5.4: the examples")
	}
}

// commonOf tries all levels, from the least one on.
func commonOf(a, b api.Point) api.Cube {
	size := 1
	for level := range 15 {
		corner := at(a.X/size*size, a.Y/size*size, a.Z/size*size)
		if corner == at(b.X/size*size, b.Y/size*size, b.Z/size*size) {
			return api.Cube{At: corner, Level: level}
		}
		size *= 2
	}
	panic("no cube")
}

func TestCommon(t *testing.T) {
	points := insides()
	for _, a := range points {
		for _, b := range points {
			if c, is := Common(a, b); c != commonOf(a, b) || !is {
				t.Fatal("P5.5:", a, b, c, is)
			}
		}
	}
	for _, p := range outsides() {
		for _, q := range []api.Point{at(0, 0, 0), at(3, 5, 1), p} {
			c, is := Common(p, q)
			d, also := Common(q, p)
			if c != (api.Cube{}) || is || d != (api.Cube{}) || also {
				t.Error("P5.5: not inside:", p, q, c, d)
			}
		}
	}
	for _, x := range []struct {
		a, b api.Point
		c    api.Cube
	}{
		{at(0, 0, 0), at(3, 5, 1), api.Cube{Level: 3}},
		{at(7, 7, 7), at(7, 7, 7), api.Cube{At: at(7, 7, 7)}},
		{at(6, 7, 7), at(7, 7, 7), api.Cube{At: at(6, 6, 6), Level: 1}},
		{at(13, 8, 9), at(8, 11, 15), api.Cube{At: at(8, 8, 8), Level: 3}},
		{at(8191, 0, 0), at(8192, 0, 0), api.Cube{Level: 14}},
		{at(5, 0, 0), at(5, last, 0), api.Cube{Level: 14}},
		{at(5, last, 8192), at(5, last, last), api.Cube{At: at(0, 8192, 8192), Level: 13}},
	} {
		if c, is := Common(x.a, x.b); c != x.c || !is {
			t.Error("P5.5:", x.a, x.b, c, is)
		}
	}
}
