package material

import (
	"math"
	"slices"
	"strings"
	"testing"

	"voxel/api"
)

// named returns valid materials with names, after air.
func named(names ...string) []api.Material {
	table := []api.Material{{Name: "air", Fade: 1}}
	for _, name := range names {
		table = append(table, api.Material{Name: name, Solid: true, Fade: 7})
	}
	return table
}

// after returns a valid table that is followed by a material.
func after(m api.Material) []api.Material { return append(named("x", "y"), m) }

// many returns a table of n elements with different names.
func many(n int) []api.Material {
	var names []string
	for i := range n - 1 {
		names = append(names, "m-"+string([]byte{byte('a' + i/26%26), byte('a' + i%26)}))
	}
	return named(names...)
}

// end returns the last elements of a long table.
func end(table []api.Material) []api.Material { return table[max(0, len(table)-5):] }

// checks checks what Check returns for a table, that Print agrees, and that both leave it as it was.
func checks(t *testing.T, table []api.Material, n int, e api.Errno) {
	t.Helper()
	given := slices.Clone(table)
	if i, f := Check(table); i != n || f != e {
		t.Errorf("P6.1: Check(%v) = %d, %d, want %d, %d", end(table), i, f, n, e)
	}
	if text, f := Print(table); f != e || (text == "") != (e != api.OK) {
		t.Errorf("P6.4: Print(%v) = %q, %d, want the error %d", end(table), text, f, e)
	}
	if !slices.Equal(table, given) {
		t.Errorf("Check or Print has changed %v to %v", end(given), end(table))
	}
}

// judges checks whether a material is valid.
func judges(t *testing.T, m api.Material, valid bool) {
	t.Helper()
	if valid {
		checks(t, after(m), 0, api.OK)
	} else {
		checks(t, after(m), 3, api.ErrArg)
	}
}

func TestTableSizes(t *testing.T) {
	checks(t, nil, -1, api.ErrArg)
	checks(t, []api.Material{}, -1, api.ErrArg)
	checks(t, many(1), 0, api.OK)
	checks(t, many(256), 0, api.OK)
	checks(t, many(257), -1, api.ErrLimit)
	checks(t, make([]api.Material, 256), 0, api.ErrArg)
	checks(t, make([]api.Material, 257), -1, api.ErrLimit)
	checks(t, make([]api.Material, 1<<16), -1, api.ErrLimit)
	last := many(256)
	last[255] = api.Material{}
	checks(t, last, 255, api.ErrArg)
	last[255] = last[254]
	checks(t, last, 255, api.ErrExists)
}

func TestFirstElement(t *testing.T) {
	for _, m := range []api.Material{
		{},
		{Name: "air"},
		{Name: "air", Fade: 2},
		{Name: "air", Fade: 16},
		{Name: "ai", Fade: 1},
		{Name: "airs", Fade: 1},
		{Name: "Air", Fade: 1},
		{Name: "stone", Fade: 1},
		{Name: "air", Fade: 1, Solid: true},
		{Name: "air", Fade: 1, Liquid: true},
		{Name: "air", Fade: 1, Falling: true},
		{Name: "air", Fade: 1, Solid: true, Falling: true},
		{Name: "air", Fade: 1, Emit: [3]int{1, 0, 0}},
		{Name: "air", Fade: 1, Emit: [3]int{0, 1, 0}},
		{Name: "air", Fade: 1, Emit: [3]int{0, 0, 1}},
	} {
		checks(t, []api.Material{m}, 0, api.ErrArg)
		checks(t, []api.Material{m, {Name: "air", Fade: 1}}, 0, api.ErrArg)
		checks(t, []api.Material{m, {}}, 0, api.ErrArg)
	}
}

func TestNames(t *testing.T) {
	for n := range 256 {
		b := string([]byte{byte(n)})
		letter := n >= 'a' && n <= 'z'
		for name, valid := range map[string]bool{
			b:             letter,
			b + "b":       letter,
			"b" + b:       letter,
			b + "-b":      letter,
			"b-" + b:      letter,
			"b" + b + "b": letter || n == '-',
		} {
			judges(t, api.Material{Name: "z" + name + "z", Fade: 1}, isName("z"+name+"z"))
			if name != "x" && name != "y" {
				judges(t, api.Material{Name: name, Fade: 1}, valid)
			}
		}
	}
	long := strings.Repeat("a", 31)
	for name, valid := range map[string]bool{
		"":                                    false,
		"a--b":                                true,
		"a-b-c":                               true,
		"-a":                                  false,
		"a-":                                  false,
		"-":                                   false,
		"--":                                  false,
		long:                                  true,
		long + "b":                            true,
		long + "-":                            false,
		long + "bc":                           false,
		"a" + strings.Repeat("-", 30):         false,
		"a" + strings.Repeat("-", 30) + "a":   true,
		"a" + strings.Repeat("-", 31) + "a":   false,
		"-" + strings.Repeat("a", 31):         false,
		strings.Repeat("a", 1000):             false,
		"\u00e4":                              false,
		"a\u00e4b":                            false,
		"a b":                                 false,
		"a\nb":                                false,
		"a\x00":                               false,
		strings.Repeat("z", 16) + "-" + "abc": true,
	} {
		judges(t, api.Material{Name: name, Fade: 1}, valid)
	}
}

// isName is the definition of a name of at most 32 bytes between letters.
func isName(s string) bool {
	return strings.Trim(s, "abcdefghijklmnopqrstuvwxyz-") == "" && strings.Trim(s, "-") == s
}

func TestKinds(t *testing.T) {
	for bits := range 8 {
		solid, liquid, falling := bits&1 > 0, bits&2 > 0, bits&4 > 0
		valid := !(solid && liquid) && (!falling || solid)
		judges(t, api.Material{Name: "z", Fade: 1, Solid: solid, Liquid: liquid, Falling: falling}, valid)
	}
}

func TestNumbers(t *testing.T) {
	for _, n := range []int{math.MinInt, -16, -1, 0, 1, 2, 7, 14, 15, 16, 17, 18, 256, 272, 1 << 32, 1<<32 + 1, math.MaxInt} {
		judges(t, api.Material{Name: "z", Fade: n}, n >= 1 && n <= 16)
		for i := range 3 {
			m := api.Material{Name: "z", Fade: 16}
			m.Emit[i] = n
			judges(t, m, n >= 0 && n <= 15)
		}
	}
	judges(t, api.Material{Name: "z", Fade: 1, Emit: [3]int{15, 15, 15}}, true)
	judges(t, api.Material{Name: "z", Fade: 1, Emit: [3]int{8, -8, 0}}, false)
}

func TestOrderOfErrors(t *testing.T) {
	bad := api.Material{Name: "z", Fade: 17}
	twice := api.Material{Name: "x", Fade: 1}
	both := api.Material{Name: "x", Fade: 17}
	checks(t, named("air"), 1, api.ErrExists)
	checks(t, named("x", "air"), 2, api.ErrExists)
	checks(t, named("x", "y", "x"), 3, api.ErrExists)
	checks(t, named("x", "y", "y", "x"), 3, api.ErrExists)
	checks(t, named("x", "xx", "x-x"), 0, api.OK)
	checks(t, append(after(twice), bad), 3, api.ErrExists)
	checks(t, append(after(bad), twice), 3, api.ErrArg)
	checks(t, after(both), 3, api.ErrArg)
	checks(t, append(after(both), twice), 3, api.ErrArg)
	checks(t, append(after(bad), bad), 3, api.ErrArg)
	checks(t, append([]api.Material{{Name: "air", Fade: 1}}, bad, api.Material{}), 1, api.ErrArg)
}

func TestFind(t *testing.T) {
	table := []api.Material{{Name: "b"}, {Name: "Odd name"}, {}, {Name: "b", Fade: 3}, {Name: "c"}, {Name: "c"}}
	for name, want := range map[string]int{"b": 0, "Odd name": 1, "": 2, "c": 4} {
		if i, is := Find(table, name); i != want || !is {
			t.Errorf("P6.2: Find(%q) = %d, %v, want %d", name, i, is, want)
		}
	}
	for _, name := range []string{"a", "B", "bb", "c ", "odd name", "Odd", "b\x00"} {
		if i, is := Find(table, name); i != 0 || is {
			t.Errorf("P6.2: Find(%q) = %d, %v", name, i, is)
		}
	}
	if i, is := Find(nil, ""); i != 0 || is {
		t.Error("P6.2: Find in no table:", i, is)
	}
	if i, is := Find(many(1000), "nothing"); i != 0 || is {
		t.Error("P6.2: Find in a table that is too long:", i, is)
	}
	for i, m := range Default() {
		if n, is := Find(Default(), m.Name); n != i || !is {
			t.Error("P6.2: Find:", m.Name, n, is)
		}
	}
}

// asks checks the answers about a cell.
func asks(t *testing.T, table []api.Material, cell int, m api.Material) {
	t.Helper()
	got := api.Material{
		Name:    m.Name,
		Solid:   Solid(table, cell),
		Liquid:  Liquid(table, cell),
		Falling: Falling(table, cell),
		Fade:    Fade(table, cell),
		Emit:    Emit(table, cell),
	}
	if got != m {
		t.Errorf("P6.2: the cell %d has %v, want %v", cell, got, m)
	}
}

func TestCells(t *testing.T) {
	odd := []api.Material{
		{Name: "a", Solid: true},
		{Name: "b", Liquid: true, Fade: -5},
		{Name: "c", Falling: true, Fade: 99, Emit: [3]int{-1, 16, math.MaxInt}},
		{Solid: true, Liquid: true, Falling: true, Fade: math.MinInt, Emit: [3]int{1, 2, 3}},
	}
	for _, table := range [][]api.Material{nil, {}, odd, Default(), many(256), many(300)} {
		for cell, m := range table {
			asks(t, table, cell, m)
		}
		for _, cell := range []int{math.MinInt, -len(table) - 1, -1, len(table), len(table) + 1, 1 << 32, math.MaxInt} {
			asks(t, table, cell, api.Material{Fade: 16})
		}
	}
}

func TestDefault(t *testing.T) {
	want := []api.Material{
		{Name: "air", Fade: 1},
		{Name: "stone", Solid: true, Fade: 16},
		{Name: "glass", Solid: true, Fade: 1},
		{Name: "lamp", Solid: true, Fade: 16, Emit: [3]int{15, 14, 10}},
		{Name: "sand", Solid: true, Falling: true, Fade: 16},
		{Name: "water", Liquid: true, Fade: 3},
		{Name: "leaves", Solid: true, Fade: 2},
		{Name: "ember", Solid: true, Fade: 16, Emit: [3]int{9, 3, 0}},
		{Name: "fog", Fade: 2},
	}
	if table := Default(); !slices.Equal(table, want) {
		t.Error("P6.3:", table)
	}
	if n, e := Check(Default()); n != 0 || e != api.OK {
		t.Error("P6.7: Default is not valid:", n, e)
	}
	table := Default()
	clear(table)
	if !slices.Equal(Default(), want) {
		t.Error("P6.3: Default is not new memory")
	}
}

func TestSame(t *testing.T) {
	if !Same(nil, nil) || !Same(nil, []api.Material{}) || !Same([]api.Material{}, nil) {
		t.Error("P6.6: tables without materials")
	}
	a := Default()
	if !Same(a, a) || !Same(a, Default()) || !Same(after(api.Material{Fade: -1}), after(api.Material{Fade: -1})) {
		t.Error("P6.6: equal tables")
	}
	for i, b := range [][]api.Material{nil, a[:8], a[1:], append(Default(), api.Material{}), append(Default(), a[8])} {
		if Same(a, b) || Same(b, a) {
			t.Error("P6.6: tables of other sizes:", i)
		}
	}
	for i := range a {
		for j, change := range []func(m *api.Material){
			func(m *api.Material) { m.Name += "x" },
			func(m *api.Material) { m.Solid = !m.Solid },
			func(m *api.Material) { m.Liquid = !m.Liquid },
			func(m *api.Material) { m.Falling = !m.Falling },
			func(m *api.Material) { m.Fade++ },
			func(m *api.Material) { m.Emit[0]++ },
			func(m *api.Material) { m.Emit[1]++ },
			func(m *api.Material) { m.Emit[2]++ },
		} {
			b := Default()
			change(&b[i])
			if Same(a, b) || Same(b, a) {
				t.Error("P6.6: tables that differ:", i, j)
			}
		}
	}
	b := Default()
	slices.Reverse(b)
	if Same(a, b) {
		t.Error("P6.6: tables in another order")
	}
}
