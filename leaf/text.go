package leaf

import (
	"cmp"
	"iter"
	"slices"

	"postil/api"
)

// text is a text at work. It is valid.
type text struct{ api.Text }

// begin returns a text at work: ErrText unless it is valid.
func begin(t api.Text) (text, api.Errno) {
	if !isText(t) {
		return text{}, api.ErrText
	}
	return text{t}, api.OK
}

// within tells whether all numbers are in a span.
func within(s api.Span, numbers ...int) bool {
	for _, n := range numbers {
		if n < s.Lo || n > s.Hi {
			return false
		}
	}
	return true
}

// isIndex tells whether a list of this length has the index.
func isIndex(i, length int) bool { return within(api.Span{Lo: 0, Hi: length - 1}, i) }

func isId(id int) bool { return within(api.Span{Lo: 0, Hi: api.MaxId}, id) }

func isWord(s string) bool {
	if !within(api.Span{Lo: 1, Hi: api.MaxLetters}, len(s)) {
		return false
	}
	for i := range len(s) {
		if s[i] < 'a' || s[i] > 'z' {
			return false
		}
	}
	return true
}

func isText(t api.Text) bool {
	if !within(api.Span{Lo: 1, Hi: api.MaxChapters}, len(t.Chapters)) {
		return false
	}
	for i, c := range t.Chapters {
		if !isId(c.Id) || hasId(t.Chapters[:i], c.Id) || !isLines(c.Lines) {
			return false
		}
	}
	return true
}

func hasId(l []api.Chapter, id int) bool {
	return slices.ContainsFunc(l, func(c api.Chapter) bool { return c.Id == id })
}

// isLines tells whether a chapter may have these lines: a line that is wrong is not counted.
func isLines(lines [][]string) bool {
	if !within(api.Span{Lo: 1, Hi: api.MaxLines}, len(lines)) {
		return false
	}
	right := 0
line:
	for n := range len(lines) {
		if !isLength(len(lines[n])) {
			continue line
		}
		for _, word := range lines[n] {
			if !isWord(word) {
				continue line
			}
		}
		right++
	}
	return right == len(lines)
}

// isLength tells whether lines may have so many words each.
func isLength(words ...int) bool { return within(api.Span{Lo: 1, Hi: api.MaxWords}, words...) }

// words yields the words of the text with their places, in order.
func (t text) words() iter.Seq2[api.Place, string] {
	return func(yield func(api.Place, string) bool) {
		for at, line := range t.lines() {
			for w, word := range line {
				at.Word = w
				if !yield(at, word) {
					return
				}
			}
		}
	}
}

// lines yields the lines of the text with the places of their first words, in order.
func (t text) lines() iter.Seq2[api.Place, []string] {
	return func(yield func(api.Place, []string) bool) {
		for i, c := range t.Chapters {
			for n := range len(c.Lines) {
				if !yield(api.Place{Chapter: i, Line: n}, c.Lines[n]) {
					return
				}
			}
		}
	}
}

// lineOf returns the line of a place, whichever its word is, and no words if there is no such line.
func (t text) lineOf(p api.Place) []string {
	if !isIndex(p.Chapter, len(t.Chapters)) {
		return nil
	}
	lines := t.Chapters[p.Chapter].Lines
	if !isIndex(p.Line, len(lines)) {
		return nil
	}
	return lines[p.Line]
}

func (t text) hasPlace(p api.Place) bool { return isIndex(p.Word, len(t.lineOf(p))) }

func (t text) placesByWord() map[string][]api.Place {
	places := map[string][]api.Place{}
	for p, word := range t.words() {
		places[word] = append(places[word], p)
	}
	return places
}

func comparePlaces(a, b api.Place) int {
	return cmp.Or(cmp.Compare(a.Chapter, b.Chapter), cmp.Compare(a.Line, b.Line), cmp.Compare(a.Word, b.Word))
}

// inOrder returns a new list of the same things, in the order of compare.
func inOrder[T any](l []T, compare func(a, b T) int) []T {
	ordered := slices.Clone(l)
	slices.SortFunc(ordered, compare)
	return ordered
}

func onceInOrder(l []api.Place) []api.Place {
	return slices.Compact(inOrder(l, comparePlaces))
}
