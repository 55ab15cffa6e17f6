package material

import (
	"strconv"
	"strings"

	"voxel/api"
)

const (
	blank     = " "
	newline   = "\n"
	fadeWord  = "fade"
	emitWord  = "emit"
	maxDigits = 3
)

// Print returns the textual form of a valid table.
func Print(table []api.Material) (string, api.Errno) {
	if _, e := Check(table); e != api.OK {
		return "", e
	}
	var text strings.Builder
	for _, m := range table {
		text.WriteString(printLine(m))
	}
	return text.String(), api.OK
}

// Parse returns the table with a textual form; otherwise the line with the first error.
func Parse(text string) ([]api.Material, int, api.Errno) {
	var table []api.Material
	for number := 1; text != ""; number++ {
		line, rest, ended := strings.Cut(text, newline)
		m, is := parseLine(line)
		if !ended || !is {
			return nil, number, api.ErrSyntax
		}
		if len(table) <= api.MaxMaterial { // one too many suffices for Check to refuse them
			table = append(table, m)
		}
		text = rest
	}
	if i, e := Check(table); e != api.OK {
		return nil, i + 1, e
	}
	return table, 0, api.OK
}

// printLine returns the line of a valid material.
func printLine(m api.Material) string {
	name, _ := kindOf(m)
	words := []string{m.Name, name, fadeWord, strconv.Itoa(m.Fade)}
	if emits(m.Emit) {
		words = append(words, emitWord)
		for _, light := range m.Emit {
			words = append(words, strconv.Itoa(light))
		}
	}
	return strings.Join(words, blank) + newline
}

// parseLine returns the material of a line, valid or not.
func parseLine(line string) (api.Material, bool) {
	r := reader{rest: line}
	next := r.word
	name := next()
	k, isKind := kindNamed(next())
	fade, isFade := parseFade(next)
	if name == "" || !isKind || !isFade {
		return api.Material{}, false
	}
	m := api.Material{
		Name:    strings.Clone(name), // or the table would keep the whole text
		Solid:   k.solid,
		Liquid:  k.liquid,
		Falling: k.falling,
		Fade:    fade,
	}
	if !r.more {
		return m, true
	}
	emit, isEmit := parseEmit(next)
	if !isEmit || r.more {
		return api.Material{}, false
	}
	m.Emit = emit
	return m, true
}

func parseFade(next func() string) (int, bool) {
	if next() != fadeWord {
		return 0, false
	}
	return parseNumber(next())
}

// parseEmit refuses zeros: a material that emits nothing has a line without them.
func parseEmit(next func() string) ([3]int, bool) {
	if next() != emitWord {
		return [3]int{}, false
	}
	var emit [3]int
	for i := range emit {
		light, is := parseNumber(next())
		if !is {
			return [3]int{}, false
		}
		emit[i] = light
	}
	return emit, emits(emit)
}

// parseNumber accepts only the word that printing the number gives.
func parseNumber(word string) (int, bool) {
	if len(word) > maxDigits {
		return 0, false
	}
	n, err := strconv.Atoi(word)
	if err != nil || n < 0 || strconv.Itoa(n) != word {
		return 0, false
	}
	return n, true
}

func emits(emit [3]int) bool { return emit != [3]int{} }

// reader takes words from a line.
type reader struct {
	rest string
	more bool // a blank stood after the last word
}

// word returns the bytes up to the next blank: the empty string, which is no word, where
// two blanks follow one another or the line has ended.
func (r *reader) word() string {
	word, rest, more := strings.Cut(r.rest, blank)
	r.rest, r.more = rest, more
	return word
}
