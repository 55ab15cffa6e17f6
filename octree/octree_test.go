package octree

import (
	"crypto/sha256"
	"math"
	"slices"
	"testing"

	"voxel/api"
)

// striped returns 64 cells that are not all equal.
func striped(a, b int) []int { return slices.Repeat([]int{a, b}, 32) }

// TestLimit checks P9.1: a store that is full takes no more nodes, and tells all other errors first.
func TestLimit(t *testing.T) {
	for _, most := range []int{math.MinInt, -1, 0} {
		s := New(most)
		id, e := s.Uniform(0)
		refused(t, s, 0, api.ErrBricks, id, e)
	}
	s := New(1)
	if s.Len() != 0 {
		t.Error("P9.1:", s.Len())
	}
	u, e := s.Uniform(0)
	made(t, u, e)
	id, e := s.Uniform(1)
	refused(t, s, 1, api.ErrBricks, id, e)
	id, e = s.Brick(striped(0, 1))
	refused(t, s, 1, api.ErrBricks, id, e)
	id, e = s.Uniform(256)
	refused(t, s, 1, api.ErrArg, id, e)
	id, e = s.Brick(striped(0, -1))
	refused(t, s, 1, api.ErrArg, id, e)
	id, e = s.Inner(3, [8]int{u, u, u, u, u, u, u, 1})
	refused(t, s, 1, api.ErrArg, id, e)
	id, e = s.From(api.Grid{Box: within(api.Point{}, point3(1, 1, 1))}, 3)
	refused(t, s, 1, api.ErrArg, id, e)
	id, e = s.Set(u, 3, point3(8, 0, 0), 1)
	refused(t, s, 1, api.ErrArg, id, e)
	for _, again := range []func() (int, api.Errno){
		func() (int, api.Errno) { return s.Uniform(0) },
		func() (int, api.Errno) { return s.Brick(make([]int, 64)) },
		func() (int, api.Errno) { return s.Inner(3, same(u)) },
		func() (int, api.Errno) { return s.From(api.Grid{}, 14) },
		func() (int, api.Errno) { return s.Set(u, 14, point3(9, 9, 9), 0) },
	} {
		if id, e := again(); id != u || e != api.OK || s.Len() != 1 {
			t.Error("P9.1: a full store makes what it has:", id, e, s.Len())
		}
	}
}

// TestUniform checks P9.2 for uniform nodes.
func TestUniform(t *testing.T) {
	s := New(1000)
	seen := map[int]bool{}
	for cell := range 256 {
		id, e := s.Uniform(cell)
		made(t, id, e)
		if again, e := s.Uniform(cell); again != id || e != api.OK {
			t.Error("P9.2: the same node:", cell, id, again, e)
		}
		seen[id] = true
		if s.Kind(id) != KindUniform || s.Depth(id) != 0 || s.Children(id) != [8]int{} || !slices.Equal(s.Cells(id), []int{cell}) {
			t.Error("P9.7:", cell, s.Kind(id), s.Depth(id), s.Children(id), s.Cells(id))
		}
	}
	if len(seen) != 256 || s.Len() != 256 {
		t.Error("P9.2:", len(seen), s.Len())
	}
	for _, cell := range []int{-1, 256, 511, math.MinInt, math.MaxInt} {
		id, e := s.Uniform(cell)
		refused(t, s, 256, api.ErrArg, id, e)
	}
}

// TestBrick checks P9.2 for bricks.
func TestBrick(t *testing.T) {
	s := New(1000)
	seen := map[int]bool{}
	for i := range 64 {
		cells := make([]int, 64)
		cells[i] = 255 - i
		id, e := s.Brick(cells)
		made(t, id, e)
		if again, e := s.Brick(cells); again != id || e != api.OK {
			t.Error("P9.2: the same node:", i, id, again, e)
		}
		seen[id] = true
		want := slices.Clone(cells)
		cells[0] = 77
		if s.Kind(id) != KindBrick || s.Depth(id) != 2 || s.Children(id) != [8]int{} || !slices.Equal(s.Cells(id), want) {
			t.Error("P9.7:", i, s.Kind(id), s.Depth(id), s.Children(id), s.Cells(id))
		}
		s.Cells(id)[5] = 78
		if !slices.Equal(s.Cells(id), want) {
			t.Error("P9.7: new memory:", i)
		}
	}
	if len(seen) != 64 || s.Len() != 64 {
		t.Error("P9.2:", len(seen), s.Len())
	}
	id, e := s.Brick(slices.Repeat([]int{9}, 64))
	made(t, id, e)
	if u, _ := s.Uniform(9); u != id || s.Kind(id) != KindUniform || s.Len() != 65 {
		t.Error("P9.2: equal cells:", u, id, s.Len())
	}
	for _, cells := range [][]int{nil, {}, {1}, striped(1, 2)[:63], append(striped(1, 2), 1), striped(1, 256), striped(-1, 0), slices.Repeat([]int{256}, 64), slices.Repeat([]int{-1}, 64)} {
		id, e := s.Brick(cells)
		refused(t, s, 65, api.ErrArg, id, e)
	}
}

// TestInner checks P9.2 for inner nodes.
func TestInner(t *testing.T) {
	s := New(1000)
	u, e := s.Uniform(1)
	made(t, u, e)
	v, e := s.Uniform(2)
	made(t, v, e)
	b, e := s.Brick(striped(1, 2))
	made(t, b, e)
	n, e := s.Inner(3, [8]int{u, b, v, b, u, u, u, b})
	made(t, n, e)
	if s.Kind(n) != KindNode || s.Depth(n) != 3 || s.Children(n) != [8]int{u, b, v, b, u, u, u, b} || len(s.Cells(n)) != 0 {
		t.Error("P9.7:", s.Kind(n), s.Depth(n), s.Children(n), s.Cells(n))
	}
	if again, e := s.Inner(3, [8]int{u, b, v, b, u, u, u, b}); again != n || e != api.OK {
		t.Error("P9.2: the same node:", again, e)
	}
	for i := range 8 {
		children := [8]int{u, u, u, u, u, u, u, u}
		children[i] = v
		id, e := s.Inner(3, children)
		made(t, id, e)
		if s.Kind(id) != KindNode || s.Children(id) != children {
			t.Error("P9.2: uniform children that differ:", i)
		}
	}
	if s.Len() != 12 {
		t.Error("P9.2:", s.Len())
	}
	for depth := 3; depth <= 14; depth++ {
		if id, e := s.Inner(depth, same(v)); id != v || e != api.OK || s.Len() != 12 {
			t.Error("P9.2: the same uniform node:", depth, id, e)
		}
	}
	seen := map[int]bool{}
	for depth := 3; depth <= 14; depth++ {
		id, e := s.Inner(depth, [8]int{u, v, u, u, u, u, u, u})
		made(t, id, e)
		seen[id] = true
		if s.Depth(id) != depth {
			t.Error("P9.2:", depth, s.Depth(id))
		}
	}
	if len(seen) != 12 || s.Len() != 23 { // that of the depth 3 was there
		t.Error("P9.2: one node for two depths:", len(seen), s.Len())
	}
	if id, e := s.Inner(3, same(b)); e != api.OK || s.Kind(id) != KindNode || s.Len() != 24 {
		t.Error("P9.2: the same brick:", id, e)
	}
}

// TestInnerErrors checks the errors of Inner (P9.2).
func TestInnerErrors(t *testing.T) {
	s := New(1000)
	u, e := s.Uniform(1)
	made(t, u, e)
	b, e := s.Brick(striped(1, 2))
	made(t, b, e)
	n, e := s.Inner(3, [8]int{u, b, u, b, u, u, u, b})
	made(t, n, e)
	for _, depth := range []int{math.MinInt, -1, 0, 2, 15, 66, math.MaxInt} {
		for _, child := range []int{u, b, n, -1, 99} {
			id, e := s.Inner(depth, same(child))
			refused(t, s, 3, api.ErrDepth, id, e)
		}
	}
	for i := range 8 {
		for _, x := range []struct{ depth, child int }{
			{3, -1}, {3, 3}, {3, math.MinInt}, {3, math.MaxInt}, {3, n}, {4, b}, {5, b}, {5, n}, {14, n}, {14, 3},
		} {
			children := same(u)
			children[i] = x.child
			id, e := s.Inner(x.depth, children)
			refused(t, s, 3, api.ErrArg, id, e)
		}
	}
	id, e := s.Inner(4, [8]int{n, n, u, n, n, n, n, n})
	made(t, id, e)
	if s.Depth(id) != 4 {
		t.Error("P9.2:", s.Depth(id))
	}
}

// TestTrim checks Trim (P9.2).
func TestTrim(t *testing.T) {
	s := New(4)
	u, e := s.Uniform(1)
	made(t, u, e)
	b, e := s.Brick(striped(1, 2))
	made(t, b, e)
	n, e := s.Inner(3, [8]int{u, b, u, u, u, u, u, u})
	made(t, n, e)
	m, e := s.Inner(4, [8]int{u, n, u, u, u, u, u, u})
	made(t, m, e)
	for _, size := range []int{4, 5, math.MaxInt} {
		s.Trim(size)
		if s.Len() != 4 || s.Kind(m) != KindNode {
			t.Error("P9.2:", size, s.Len())
		}
	}
	old := s.Digest(n)
	s.Trim(2)
	if s.Len() != 2 || s.Kind(u) != KindUniform || s.Kind(b) != KindBrick {
		t.Error("P9.2:", s.Len())
	}
	id, e := s.Inner(4, [8]int{u, n, u, u, u, u, u, u})
	refused(t, s, 2, api.ErrArg, id, e)
	if again, e := s.Brick(striped(1, 2)); again != b || e != api.OK || s.Len() != 2 {
		t.Error("P9.2: what stays is the same node:", again, e)
	}
	o, e := s.Inner(3, [8]int{b, u, u, u, u, u, u, u})
	made(t, o, e)
	if s.Len() != 3 || s.Children(o) != [8]int{b, u, u, u, u, u, u, u} || s.Digest(o) == old {
		t.Error("P9.8: a node after a removed one:", s.Len(), s.Children(o), s.Digest(o))
	}
	n, e = s.Inner(3, [8]int{u, b, u, u, u, u, u, u})
	made(t, n, e)
	if s.Len() != 4 || n == o || s.Digest(n) != old || s.Children(n) != [8]int{u, b, u, u, u, u, u, u} {
		t.Error("P9.2: a removed node, again:", s.Len(), s.Children(n))
	}
	id, e = s.Uniform(3)
	refused(t, s, 4, api.ErrBricks, id, e)
	for _, size := range []int{0, -1, math.MinInt} {
		for cell := range 4 {
			s.Uniform(cell)
		}
		s.Trim(size)
		if s.Len() != 0 {
			t.Error("P9.2:", size, s.Len())
		}
	}
	if id, e := s.Uniform(7); e != api.OK || s.Cells(id)[0] != 7 || s.Len() != 1 {
		t.Error("P9.2:", id, e)
	}
}

// sum is the digest of an input, as it is hashed.
func sum(parts ...[]byte) api.Digest {
	all := sha256.Sum256(slices.Concat(parts...))
	return api.Digest(all[:16])
}

// TestDigest checks P9.8.
func TestDigest(t *testing.T) {
	s := New(1000)
	u, e := s.Uniform(5)
	made(t, u, e)
	v, e := s.Uniform(200)
	made(t, v, e)
	b, e := s.Brick(striped(5, 200))
	made(t, b, e)
	n, e := s.Inner(3, [8]int{u, b, v, u, u, u, u, b})
	made(t, n, e)
	m, e := s.Inner(14, [8]int{u, v, v, v, v, v, v, v})
	made(t, m, e)
	// an integer is encoded as twice its value, 7 bits a byte; a part begins with its length
	du, dv := sum([]byte{1, 2, 10}), sum([]byte{1, 4, 0x90, 3})
	db := sum([]byte{2, 24, 64, 2, 5, 200}, slices.Repeat([]byte{0xaa}, 8))
	inner := func(depth byte, children ...api.Digest) api.Digest {
		input := []byte{3, 2, 2 * depth}
		for _, d := range children {
			input = append(append(input, 32), d[:]...)
		}
		return sum(input)
	}
	for _, x := range []struct {
		id   int
		want api.Digest
	}{{n, inner(3, du, db, dv, du, du, du, du, db)}, {m, inner(14, du, dv, dv, dv, dv, dv, dv, dv)}, {b, db}, {u, du}, {v, dv}} {
		if d, again := s.Digest(x.id), s.Digest(x.id); d != x.want || again != x.want {
			t.Error("P9.8:", x.id, d, again, x.want)
		}
	}
	o, e := s.Inner(4, [8]int{u, v, v, v, v, v, v, v})
	made(t, o, e)
	if s.Digest(o) == s.Digest(m) {
		t.Error("P9.8: inner nodes of different depths")
	}
}

// TestDigestShared checks that a digest takes no longer than a tree has different nodes (P9.8).
func TestDigestShared(t *testing.T) {
	s := New(100)
	id, e := s.Brick(striped(0, 1))
	for depth := 3; depth <= 14; depth++ {
		id, e = s.Inner(depth, same(made(t, id, e)))
	}
	made(t, id, e)
	seen := map[api.Digest]bool{}
	for s.Kind(id) == KindNode {
		seen[s.Digest(id)] = true
		id = s.Children(id)[3]
	}
	seen[s.Digest(id)] = true
	if len(seen) != 13 || s.Len() != 13 {
		t.Error("P9.8:", len(seen), s.Len())
	}
}

// TestDigestsDiffer checks that the digest depends on the cells, not on the store (P9.8, P9.9).
func TestDigestsDiffer(t *testing.T) {
	next := random(5)
	s := New(100000)
	ids := map[api.Digest]int{}
	for i := range 60 {
		g := scene(t, next, 3)
		id, e := s.From(g, 3)
		d := s.Digest(made(t, id, e))
		if other, is := ids[d]; is && other != id {
			t.Error("P9.8: two nodes with a digest:", i)
		}
		ids[d] = id
		r := New(1000)
		r.Uniform(i)
		id, e = r.From(g, 3)
		if r.Digest(made(t, id, e)) != d {
			t.Error("P9.8: another store:", i)
		}
	}
}

// TestPanics checks P1: not even arguments for which no result is specified panic.
func TestPanics(t *testing.T) {
	full := New(1000)
	u, e := full.Uniform(1)
	made(t, u, e)
	b, e := full.Brick(striped(1, 2))
	made(t, b, e)
	n, e := full.Inner(3, [8]int{u, b, u, u, u, u, u, u})
	made(t, n, e)
	numbers := []int{math.MinInt, -1, 0, 1, 2, 3, 4, 7, 14, 15, 63, 64, 65, math.MaxInt}
	for _, s := range []*Store{nil, {}, New(2), full} {
		for _, id := range numbers {
			for _, depth := range numbers {
				size := s.Len()
				p := point3(id, depth, 3)
				s.Get(id, depth, p)
				s.Grid(id, depth, within(api.Point{}, point3(9, 9, 9)))
				s.Part(id, depth, api.Point{}, depth)
				s.Part(id, 4, api.Point{}, depth)
				s.Set(id, depth, point3(1, 2, 3), 1)
				s.Trim(size)
				s.From(api.Grid{Box: within(p, point3(depth, id, 9)), Cells: []int{1}}, depth)
				s.Inner(depth, same(id))
				s.Trim(size)
			}
			s.Kind(id)
			s.Depth(id)
			s.Children(id)
			s.Cells(id)
			s.Digest(id)
		}
	}
}
