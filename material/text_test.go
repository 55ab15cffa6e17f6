package material

import (
	"regexp"
	"runtime"
	"slices"
	"strconv"
	"strings"
	"testing"

	"voxel/api"
)

const defaultText = "air gas fade 1\n" +
	"stone solid fade 16\n" +
	"glass solid fade 1\n" +
	"lamp solid fade 16 emit 15 14 10\n" +
	"sand falling fade 16\n" +
	"water liquid fade 3\n" +
	"leaves solid fade 2\n" +
	"ember solid fade 16 emit 9 3 0\n" +
	"fog gas fade 2\n"

// airLine is the first line of every valid text.
const airLine = "air gas fade 1\n"

// brief returns the beginning of a long text.
func brief(text string) string {
	if len(text) > 300 {
		return text[:300] + ".."
	}
	return text
}

// reads checks that a text is the textual form of a table, in both directions.
func reads(t *testing.T, text string, table []api.Material) {
	t.Helper()
	if got, n, e := Parse(text); !slices.Equal(got, table) || n != 0 || e != api.OK {
		t.Errorf("P6.5: Parse(%q) = %v, %d, %d, want %v", brief(text), got, n, e, table)
	}
	if got, e := Print(table); got != text || e != api.OK {
		t.Errorf("P6.4: Print(%v) = %q, %d, want %q", table, brief(got), e, brief(text))
	}
}

// refuses checks that a text has an error in a line.
func refuses(t *testing.T, text string, line int, want api.Errno) {
	t.Helper()
	if table, n, e := Parse(text); len(table) != 0 || n != line || e != want {
		t.Errorf("P6.5: Parse(%q) = %v, %d, %d, want %d, %d", brief(text), table, n, e, line, want)
	}
}

func TestTextualForms(t *testing.T) {
	reads(t, defaultText, Default())
	reads(t, airLine, many(1))
	reads(t, airLine+"lamp solid fade 16 emit 15 14 10\n", []api.Material{Default()[0], Default()[3]})
	reads(t, airLine+"lava liquid fade 10 emit 15 6 0\na-b gas fade 9\nz falling fade 1 emit 0 0 1\n", []api.Material{
		{Name: "air", Fade: 1},
		{Name: "lava", Liquid: true, Fade: 10, Emit: [3]int{15, 6, 0}},
		{Name: "a-b", Fade: 9},
		{Name: "z", Solid: true, Falling: true, Fade: 1, Emit: [3]int{0, 0, 1}},
	})
	reads(t, airLine+"gas gas fade 2\nfade solid fade 3\nemit gas fade 4 emit 1 0 0\n", []api.Material{
		{Name: "air", Fade: 1},
		{Name: "gas", Fade: 2},
		{Name: "fade", Solid: true, Fade: 3},
		{Name: "emit", Fade: 4, Emit: [3]int{1, 0, 0}},
	})
}

// validTables returns tables with all valid kinds, fades and lights.
func validTables() [][]api.Material {
	list := [][]api.Material{Default(), many(1), many(2), many(256)}
	for kind := range 4 {
		for fade := 1; fade <= 16; fade++ {
			var table []api.Material
			for i := range 16 {
				m := api.Material{Name: "m" + strings.Repeat("-", i) + "m", Fade: fade}
				m.Solid, m.Liquid, m.Falling = kind == 1 || kind == 2, kind == 3, kind == 2
				m.Emit = [3]int{i, (i * fade) % 16, (i + kind) % 16}
				if i == 15 {
					m.Emit = [3]int{}
				}
				table = append(table, m)
			}
			list = append(list, append(many(1), table...))
		}
	}
	return list
}

func TestRoundTrip(t *testing.T) {
	for _, table := range validTables() {
		text, e := Print(table)
		if e != api.OK || strings.Count(text, "\n") != len(table) {
			t.Fatalf("P6.4: Print(%v) = %q, %d", table, text, e)
		}
		if got, n, e := Parse(text); !slices.Equal(got, table) || n != 0 || e != api.OK {
			t.Errorf("P6.7: Parse(%q) = %v, %d, %d, want %v", text, got, n, e, table)
		}
	}
}

func TestLinesThatAreNone(t *testing.T) {
	for _, line := range []string{
		"", " ", "x", "x ", "x gas", "x gas ", "x gas fade", "x gas fade ", "gas fade 1", " gas fade 1",
		" x gas fade 1", "x gas fade 1 ", "x  gas fade 1", "x gas  fade 1", "x gas fade  1", "x\tgas fade 1", "x gas\tfade 1",
		"x gas fade 1\r", "x gas fade\t1", "x gas fade 1\t", "x gas fade 1\x00",
		"x mud fade 1", "x Gas fade 1", "x gass fade 1", "x ga fade 1", "x gas faded 1", "x gas fad 1", "x gas Fade 1", "x gas 1", "x fade 1", "x gas emit 1",
		"x gas fade 01", "x gas fade 00", "x gas fade 001", "x gas fade 1000", "x gas fade 0001", "x gas fade 99999999999999999999",
		"x gas fade -1", "x gas fade -0", "x gas fade +1", "x gas fade 1.0", "x gas fade 0x1", "x gas fade 1_0", "x gas fade one", "x gas fade 1a", "x gas fade \u0661",
		"x gas fade 1 2", "x gas fade 1 1 1 1", "x gas fade 1 emit", "x gas fade 1 emit ", "x gas fade 1 emit 1", "x gas fade 1 emit 1 1", "x gas fade 1 emit 1 1 ", "x gas fade 1 emit 1 1 1 ",
		"x gas fade 1 emit 1 1 1 1", "x gas fade 1  emit 1 1 1", "x gas fade 1 emit  1 1 1", "x gas fade 1 emit 1  1 1", "x gas fade 1 emit 1 1  1", "x gas fade 1 emit 1 1 1 emit 1 1 1",
		"x gas fade 1 omit 1 1 1", "x gas fade 1 Emit 1 1 1", "x gas fade 1 emits 1 1 1", "x gas emit 1 1 1 fade 1", "x gas fade 1 emit 0 0 0",
		"x gas fade 1 emit 01 1 1", "x gas fade 1 emit 1 01 1", "x gas fade 1 emit 1 1 01", "x gas fade 1 emit 00 0 1", "x gas fade 1 emit 1 1 -1", "x gas fade 1 emit 1 1000 1", "x gas fade 1 emit 1 x 1",
		"x y gas fade 1", "x gas solid fade 1", "\u00a0x gas\u00a0fade 1",
	} {
		refuses(t, line+"\n", 1, api.ErrSyntax)
		refuses(t, airLine+line+"\n", 2, api.ErrSyntax)
		refuses(t, airLine+line+"\nx gas fade 1\n", 2, api.ErrSyntax)
		refuses(t, airLine+"air gas fade 1\n"+line+"\nmud\n", 3, api.ErrSyntax)
	}
}

func TestEndOfText(t *testing.T) {
	refuses(t, "", 0, api.ErrArg)
	refuses(t, "\n", 1, api.ErrSyntax)
	refuses(t, "air gas fade 1", 1, api.ErrSyntax)
	refuses(t, airLine+"\n", 2, api.ErrSyntax)
	refuses(t, airLine+"x gas fade 1", 2, api.ErrSyntax)
	refuses(t, airLine+"x gas fade 17\nx gas fade 1", 3, api.ErrSyntax)
	refuses(t, airLine+" ", 2, api.ErrSyntax)
	refuses(t, airLine+"x", 2, api.ErrSyntax)
}

func TestTablesThatAreNotValid(t *testing.T) {
	refuses(t, "air gas fade 2\n", 1, api.ErrArg)
	refuses(t, "air gas fade 0\n", 1, api.ErrArg)
	refuses(t, "air solid fade 1\n", 1, api.ErrArg)
	refuses(t, "air gas fade 1 emit 0 0 1\n", 1, api.ErrArg)
	refuses(t, "x gas fade 1\nair gas fade 1\n", 1, api.ErrArg)
	refuses(t, airLine+airLine, 2, api.ErrExists)
	refuses(t, airLine+"x gas fade 1\nx solid fade 2\n", 3, api.ErrExists)
	refuses(t, airLine+"x gas fade 1\nx solid fade 17\n", 3, api.ErrArg)
	refuses(t, airLine+"x gas fade 1\nx solid fade 1\nX gas fade 1\n", 3, api.ErrExists)
	for _, line := range []string{
		"x gas fade 0", "x gas fade 17", "x gas fade 999", "x gas fade 100", "x gas fade 1 emit 16 0 0", "x gas fade 1 emit 0 999 0", "x gas fade 1 emit 1 1 16",
		"X gas fade 1", "- gas fade 1", "x- gas fade 1", "1 gas fade 1", "a.b gas fade 1", "\t gas fade 1", "a\tb gas fade 1", "\r gas fade 1", "\x00 gas fade 1", "\xff gas fade 1", "\u00e4 gas fade 1",
		strings.Repeat("a", 33) + " gas fade 1",
	} {
		refuses(t, airLine+line+"\n", 2, api.ErrArg)
		refuses(t, airLine+line+"\nX gas fade 1\n", 2, api.ErrArg)
		refuses(t, airLine+line+"\nx gas fade 01\n", 3, api.ErrSyntax)
	}
	reads(t, airLine+strings.Repeat("a", 32)+" gas fade 1\n", append(many(1), api.Material{Name: strings.Repeat("a", 32), Fade: 1}))
}

func TestLongTexts(t *testing.T) {
	lines := func(n int) string {
		text := airLine
		for _, m := range many(n)[1:] {
			text += m.Name + " solid fade 7\n"
		}
		return text
	}
	reads(t, lines(256), many(256))
	for _, n := range []int{257, 258, 300, 5000} {
		refuses(t, lines(n), 0, api.ErrLimit)
		refuses(t, lines(n)+"x gas fade 01\n", n+1, api.ErrSyntax)
		refuses(t, lines(n)+"x gas fade 1", n+1, api.ErrSyntax)
	}
	refuses(t, lines(256)+"x", 257, api.ErrSyntax)
	refuses(t, lines(255)+"m-aa gas fade 1\n", 256, api.ErrExists)
	refuses(t, strings.Repeat("x gas fade 0\n", 256), 1, api.ErrArg)
	refuses(t, strings.Repeat("x gas fade 0\n", 257), 0, api.ErrLimit)
	refuses(t, strings.Repeat("\n", 1<<20), 1, api.ErrSyntax)
	refuses(t, strings.Repeat(" ", 1<<20), 1, api.ErrSyntax)
	refuses(t, airLine+"x gas fade "+strings.Repeat("1", 1<<20)+"\n", 2, api.ErrSyntax)
	refuses(t, airLine+strings.Repeat("x", 1<<20)+" gas fade 1\n", 2, api.ErrArg)
}

// beginOfLongText returns the table of the beginning of a text that nobody else keeps.
func beginOfLongText(size int) []api.Material {
	text := defaultText + strings.Repeat("x", size)
	table, _, _ := Parse(text[:len(defaultText)])
	return table
}

func TestNewMemoryForNames(t *testing.T) {
	heap := func() int {
		var s runtime.MemStats
		runtime.GC()
		runtime.ReadMemStats(&s)
		return int(s.HeapAlloc)
	}
	const size = 1 << 25
	before := heap()
	table := beginOfLongText(size)
	if grown := heap() - before; grown > size/2 {
		t.Error("P6.5: the table keeps the text:", grown)
	}
	if !slices.Equal(table, Default()) {
		t.Error("P6.5:", table)
	}
}

var lineForm = regexp.MustCompile(`^([^ ]+) (gas|solid|falling|liquid) fade (0|[1-9][0-9]{0,2})( emit (0|[1-9][0-9]{0,2}) (0|[1-9][0-9]{0,2}) (0|[1-9][0-9]{0,2}))?$`)

// parsed is Parse, written with a regular expression for lines.
func parsed(text string) ([]api.Material, int, api.Errno) {
	lines := strings.Split(text, "\n")
	last := len(lines) - 1
	var table []api.Material
	for i, line := range lines {
		if i == last && line == "" {
			break
		}
		p := lineForm.FindStringSubmatch(line)
		if p == nil || p[4] == " emit 0 0 0" || i == last {
			return nil, i + 1, api.ErrSyntax
		}
		m := api.Material{Name: p[1], Solid: p[2] == "solid" || p[2] == "falling", Falling: p[2] == "falling", Liquid: p[2] == "liquid"}
		m.Fade, _ = strconv.Atoi(p[3])
		for j := range m.Emit {
			m.Emit[j], _ = strconv.Atoi(p[5+j])
		}
		table = append(table, m)
	}
	if i, e := Check(table); e != api.OK {
		return nil, i + 1, e
	}
	return table, 0, api.OK
}

// compares checks Parse against parsed, and what follows for a text that is accepted.
func compares(t *testing.T, text string) {
	t.Helper()
	table, n, e := Parse(text)
	want, line, f := parsed(text)
	if !slices.Equal(table, want) || n != line || e != f {
		t.Fatalf("P6.5: Parse(%q) = %v, %d, %d, want %v, %d, %d", text, table, n, e, want, line, f)
	}
	if e != api.OK {
		return
	}
	if _, e := Check(table); e != api.OK {
		t.Fatalf("P6.7: Parse(%q) is not valid: %d", text, e)
	}
	if got, e := Print(table); got != text || e != api.OK {
		t.Fatalf("P6.7: Print of Parse(%q) = %q, %d", text, got, e)
	}
}

func TestChangedTexts(t *testing.T) {
	const text = airLine + "ab solid fade 16 emit 9 13 0\nb gas fade 2\n"
	bytes := []string{"", " ", "\n", "a", "b", "x", "A", "-", "0", "1", "7", "\t", "\r", "\x00", "\xff", "  ", " 0", " 1", "\n\n", "emit", " emit", " emit 1 2 3", "fade"}
	for i := range len(text) + 1 {
		for _, b := range bytes {
			compares(t, text[:i]+b+text[i:])
			for j := i + 1; j <= min(i+3, len(text)); j++ {
				compares(t, text[:i]+b+text[j:])
			}
		}
		compares(t, text[:i])
		compares(t, text[i:])
		compares(t, text[i:]+text[:i])
	}
}

func TestTextsOfWords(t *testing.T) {
	words := []string{"air", "x", "gas", "solid", "falling", "liquid", "fade", "emit", "0", "1", "15", "16", "999", "1000", "01", "-1", "\n", "fade 1\n", "gas fade 1\n", "emit 1 0 2\n", "solid fade 16 "}
	seed := 1
	next := func(n int) int {
		seed = (seed*1103515245 + 12345) % (1 << 31)
		return seed >> 8 % 8192 % n
	}
	for range 20000 {
		text := ""
		if next(2) == 0 {
			text = airLine
		}
		for range next(10) {
			text += words[next(len(words))]
			if next(4) > 0 && !strings.HasSuffix(text, "\n") {
				text += " "
			}
		}
		compares(t, text)
	}
}
