package morton

import (
	"math"
	"slices"
	"testing"

	"voxel/api"
)

func box(a, b, c, d, e, f int) api.Box { return api.Box{Min: at(a, b, c), Max: at(d, e, f)} }

// smallBoxes returns the boxes with corners in a cube at a point, the empty ones among them.
func smallBoxes(p api.Point, side int) []api.Box {
	var list []api.Box
	n := side + 1
	for code := range n * n * n * n * n * n {
		var c [6]int
		for i := range c {
			c[i] = code % n
			code /= n
		}
		list = append(list, box(p.X+c[0], p.Y+c[1], p.Z+c[2], p.X+c[3], p.Y+c[4], p.Z+c[5]))
	}
	return list
}

// variedBoxes returns boxes of up to 13 cells a side: at the bounds of the cube of all cells, partly beyond them, and across cubes of different levels.
func variedBoxes() []api.Box {
	var list []api.Box
	seed := 12345
	next := func(n int) int {
		seed = (seed*1103515245 + 12345) % (1 << 31)
		return seed >> 8 % 8192 % n
	}
	for _, p := range grid([]int{0, 4095, 8192, last}) {
		for range 8 {
			m := at(p.X+next(13)-6, p.Y+next(13)-6, p.Z+next(13)-6)
			list = append(list, box(m.X, m.Y, m.Z, m.X+next(14), m.Y+next(14), m.Z+next(14)))
		}
	}
	return list
}

// oddBoxes returns boxes that are empty, or that have cells inside only by a part.
func oddBoxes() []api.Box {
	return []api.Box{
		{},
		box(5, 5, 5, 5, 5, 5),
		box(5, 5, 5, 9, 9, 5),
		box(0, 0, 0, 8, -8, 8),
		box(8, 8, 8, 0, 0, 0),
		box(3, 0, 0, 2, 9, 9),
		box(-9, -9, -9, 0, 5, 5),
		box(-9, -9, -9, 2, 1, 3),
		box(Side, 0, 0, Side+4, 4, 4),
		box(0, 0, Side, 1, 1, math.MaxInt),
		box(last, last-1, last-3, math.MaxInt, math.MaxInt, math.MaxInt),
		box(math.MinInt, math.MinInt, math.MinInt, 1, 1, 1),
		box(math.MinInt, math.MinInt, math.MinInt, math.MaxInt, math.MaxInt, math.MinInt),
		box(math.MaxInt, 0, 0, math.MinInt, 4, 4),
		box(math.MinInt, 5, 5, 3, 6, 6),
	}
}

// codesOf returns the codes of the cells of a box by their definition, in increasing order.
func codesOf(b api.Box) []int {
	var list []int
	for z := max(b.Min.Z, 0); z < min(b.Max.Z, Side); z++ {
		for y := max(b.Min.Y, 0); y < min(b.Max.Y, Side); y++ {
			for x := max(b.Min.X, 0); x < min(b.Max.X, Side); x++ {
				list = append(list, codeOf(at(x, y, z)))
			}
		}
	}
	slices.Sort(list)
	return list
}

// cubesOf merges the cells of a box: eight children that are all there become their parent, level by level.
func cubesOf(codes []int) []api.Cube {
	have := make([]map[int]bool, 15)
	have[0] = map[int]bool{}
	for _, n := range codes {
		have[0][n] = true
	}
	for level := 1; level <= 14; level++ {
		have[level] = map[int]bool{}
		children := map[int]int{}
		for n := range have[level-1] {
			children[n/8]++
		}
		for n, count := range children {
			if count == 8 {
				have[level][n] = true
			}
		}
		for n := range have[level] {
			for octant := range 8 {
				delete(have[level-1], 8*n+octant)
			}
		}
	}
	firsts := map[int]int{}
	for level := range have {
		for n := range have[level] {
			firsts[n<<(3*level)] = level
		}
	}
	var list []api.Cube
	for _, n := range codes {
		if level, is := firsts[n]; is {
			p, _ := Decode(n)
			list = append(list, api.Cube{At: p, Level: level})
		}
	}
	return list
}

// runsOf joins codes that follow one another.
func runsOf(codes []int) []api.Run {
	var list []api.Run
	for i, n := range codes {
		if i > 0 && codes[i-1] == n-1 {
			list[len(list)-1].Last = n
		} else {
			list = append(list, api.Run{First: n, Last: n})
		}
	}
	return list
}

func checkBox(t *testing.T, b api.Box) {
	t.Helper()
	codes := codesOf(b)
	if l, e := Cubes(b); e != api.OK || !slices.Equal(l, cubesOf(codes)) {
		t.Fatal("P5.6: Cubes:", b, l, e)
	}
	if l, e := Runs(b); e != api.OK || !slices.Equal(l, runsOf(codes)) {
		t.Fatal("P5.6: Runs:", b, l, e)
	}
}

func TestSmallBoxes(t *testing.T) {
	for _, b := range smallBoxes(at(0, 0, 0), 5) {
		checkBox(t, b)
	}
	for _, b := range smallBoxes(at(6, 14, 8190), 3) {
		checkBox(t, b)
	}
	for _, b := range smallBoxes(at(-1, last-1, last), 3) {
		checkBox(t, b)
	}
}

func TestVariedBoxes(t *testing.T) {
	for _, b := range variedBoxes() {
		checkBox(t, b)
	}
	for _, b := range oddBoxes() {
		checkBox(t, b)
	}
}

func TestExampleBox(t *testing.T) {
	b := box(0, 0, 0, 2, 2, 3)
	cubes := []api.Cube{{Level: 1}, {At: at(0, 0, 2)}, {At: at(1, 0, 2)}, {At: at(0, 1, 2)}, {At: at(1, 1, 2)}}
	if l, e := Cubes(b); e != api.OK || !slices.Equal(l, cubes) {
		t.Error("P5.6: Cubes:", l, e)
	}
	if l, e := Runs(b); e != api.OK || !slices.Equal(l, []api.Run{{First: 0, Last: 7}, {First: 32, Last: 35}}) {
		t.Error("P5.6: Runs:", l, e)
	}
}

func TestGreatBoxes(t *testing.T) {
	whole := []api.Cube{{Level: 14}}
	half := []api.Cube{{Level: 13}, {At: at(8192, 0, 0), Level: 13}, {At: at(0, 8192, 0), Level: 13}, {At: at(8192, 8192, 0), Level: 13}}
	right := []api.Cube{{At: at(8192, 0, 0), Level: 13}, {At: at(8192, 8192, 0), Level: 13}, {At: at(8192, 0, 8192), Level: 13}, {At: at(8192, 8192, 8192), Level: 13}}
	const part = 1 << 39 // the codes of a cube of the level 13
	for _, x := range []struct {
		b     api.Box
		cubes []api.Cube
		runs  []api.Run
	}{
		{box(0, 0, 0, Side, Side, Side), whole, []api.Run{{First: 0, Last: 8*part - 1}}},
		{box(math.MinInt, -1, 0, math.MaxInt, Side, 1<<40), whole, []api.Run{{First: 0, Last: 8*part - 1}}},
		{box(-7, 0, 0, Side, Side, 8192), half, []api.Run{{First: 0, Last: 4*part - 1}}},
		{box(8192, 0, 0, Side+9, Side, Side), right, []api.Run{{First: part, Last: 2*part - 1}, {First: 3 * part, Last: 4*part - 1}, {First: 5 * part, Last: 6*part - 1}, {First: 7 * part, Last: 8*part - 1}}},
	} {
		if l, e := Cubes(x.b); e != api.OK || !slices.Equal(l, x.cubes) {
			t.Error("P5.6: Cubes:", x.b, l, e)
		}
		if l, e := Runs(x.b); e != api.OK || !slices.Equal(l, x.runs) {
			t.Error("P5.6: Runs:", x.b, l, e)
		}
	}
}

func TestMaxCubes(t *testing.T) {
	for _, x := range []struct {
		b           api.Box
		cubes, runs int
	}{
		{box(0, 0, 0, 64, 64, 1), 4096, 1024},
		{box(0, 0, 1, 4096, 1, 2), 4096, 2048},
		{box(-100, 3, 0, 1, 4, 4096), 4096, 4096},
		{box(0, last, 0, 1, Side+5, 4095), 4095, 4095},
	} {
		l, e := Cubes(x.b)
		r, f := Runs(x.b)
		if len(l) != x.cubes || len(r) != x.runs || e != api.OK || f != api.OK {
			t.Error("P5.6:", x.b, len(l), len(r), e, f)
		}
	}
	for _, b := range []api.Box{
		box(0, 0, 0, 4097, 1, 1),
		box(0, 0, 1, 1, 4097, 2),
		box(0, 0, last-4096, 1, 1, Side),
		box(0, 0, 0, 64, 65, 1),
		box(1, 1, 1, last, last, last),
		box(0, 0, 0, Side, Side, last),
		box(math.MinInt, math.MinInt, 1, math.MaxInt, math.MaxInt, math.MaxInt),
	} {
		l, e := Cubes(b)
		r, f := Runs(b)
		if len(l) != 0 || len(r) != 0 || e != api.ErrLimit || f != api.ErrLimit {
			t.Error("P5.6: too many:", b, len(l), len(r), e, f)
		}
	}
}

func TestNewMemory(t *testing.T) {
	b := box(0, 0, 0, 2, 2, 3)
	cubes, _ := Cubes(b)
	runs, _ := Runs(b)
	cubes[0], runs[0] = api.Cube{At: at(9, 9, 9)}, api.Run{First: 5, Last: 5}
	checkBox(t, b)
}

// fewest returns the least number of cubes that consist of the cells of a box in a cube, by trying: the cube itself, or the best for its children.
func fewest(b api.Box, c api.Cube) int {
	size := 1 << c.Level
	n := len(codesOf(box(max(b.Min.X, c.At.X), max(b.Min.Y, c.At.Y), max(b.Min.Z, c.At.Z), min(b.Max.X, c.At.X+size), min(b.Max.Y, c.At.Y+size), min(b.Max.Z, c.At.Z+size))))
	switch {
	case n == 0:
		return 0
	case n == size*size*size:
		return 1
	}
	sum := 0
	half := size / 2
	for i := range 8 {
		sum += fewest(b, api.Cube{At: at(c.At.X+i%2*half, c.At.Y+i/2%2*half, c.At.Z+i/4*half), Level: c.Level - 1})
	}
	return sum
}

func TestDivision(t *testing.T) {
	for _, b := range append(smallBoxes(at(0, 0, 0), 3), variedBoxes()...) {
		codes := codesOf(b)
		cubes, _ := Cubes(b)
		count := map[int]int{}
		for _, c := range cubes {
			size := 1 << c.Level
			for _, n := range codesOf(box(c.At.X, c.At.Y, c.At.Z, c.At.X+size, c.At.Y+size, c.At.Z+size)) {
				count[n]++
			}
		}
		runs, _ := Runs(b)
		for _, r := range runs {
			for n := r.First; n <= r.Last; n++ {
				count[n] += 1000
			}
		}
		for _, n := range codes {
			if count[n] != 1001 {
				t.Fatal("P5.8: a cell is not in exactly one cube and one run:", b, n, count[n])
			}
		}
		if len(count) != len(codes) {
			t.Fatal("P5.8: cells that are not in the box:", b)
		}
	}
	for _, b := range smallBoxes(at(0, 0, 0), 4) {
		if l, _ := Cubes(b); len(l) != fewest(b, api.Cube{Level: 3}) {
			t.Fatal("P5.8: fewer cubes would do:", b, len(l))
		}
	}
}

func TestNext(t *testing.T) {
	for _, b := range smallBoxes(at(0, 0, 0), 3) {
		codes := codesOf(b)
		for n := -2; n <= 70; n++ {
			want := -1
			for _, code := range codes {
				if code >= n {
					want = code
					break
				}
			}
			if m := Next(b, n); m != want {
				t.Fatal("P5.7:", b, n, m)
			}
		}
	}
	for _, x := range []struct {
		b       api.Box
		n, want int
	}{
		{box(0, 0, 0, 2, 2, 3), 9, 32},
		{box(0, 0, 0, 2, 2, 3), math.MinInt, 0},
		{box(0, 0, 0, 2, 2, 3), 36, -1},
		{box(0, 0, 0, 2, 2, 3), 1 << 42, -1},
		{box(0, 0, 0, 2, 2, 3), math.MaxInt, -1},
		{box(math.MinInt, math.MinInt, math.MinInt, math.MaxInt, math.MaxInt, math.MaxInt), 123456789012, 123456789012},
		{box(math.MinInt, math.MinInt, math.MinInt, math.MaxInt, math.MaxInt, math.MaxInt), 1<<42 - 1, 1<<42 - 1},
		{box(math.MinInt, math.MinInt, math.MinInt, math.MaxInt, math.MaxInt, math.MaxInt), 1 << 42, -1},
		{box(1, 1, 1, last, last, last), 0, 7},
		{box(last, last, last, Side+9, Side, math.MaxInt), 0, 1<<42 - 1},
		{box(last, 0, 0, Side, 1, 1), -7, 0x9249249249},
		{box(last, 0, 0, Side, 1, 1), 0x924924924a, -1},
		{box(Side, 0, 0, Side+9, 9, 9), 0, -1},
		{box(0, 0, 8192, Side, Side, Side), 17, 1 << 41},
	} {
		if m := Next(x.b, x.n); m != x.want {
			t.Error("P5.7:", x.b, x.n, m)
		}
	}
}

func TestWalk(t *testing.T) {
	for _, b := range append(variedBoxes(), oddBoxes()...) {
		var walk []int
		for n := Next(b, 0); n >= 0; n = Next(b, n+1) {
			walk = append(walk, n)
		}
		if !slices.Equal(walk, codesOf(b)) {
			t.Fatal("P5.9:", b, len(walk))
		}
	}
}
