package chart

import (
	"iter"
	"slices"

	"postil/api"
	"postil/leaf"
)

// edition is an edition at work, with its text. Both are valid.
type edition struct {
	api.Edition
	text api.Text
}

// numbers is the number of a chapter of an edition, and that of a line of it.
type numbers [2]int

// check returns leaf.Check's error of a text, and ErrEdition unless all editions of it are valid.
func check(t api.Text, l ...api.Edition) api.Errno {
	if err := leaf.Check(t); err != api.OK {
		return err
	}
	for _, e := range l {
		if !isEdition(t, e) {
			return api.ErrEdition
		}
	}
	return api.OK
}

// checkSound returns check's errors, and ErrBad unless all editions are sound.
func checkSound(t api.Text, l ...api.Edition) api.Errno {
	if err := check(t, l...); err != api.OK {
		return err
	}
	for _, e := range l {
		if _, _, found := (edition{e, t}).clash(); found {
			return api.ErrBad
		}
	}
	return api.OK
}

// within tells whether all numbers are in a span.
func within(s api.Span, l ...int) bool {
	return !slices.ContainsFunc(l, func(n int) bool { return n < s.Lo || n > s.Hi })
}

// anyNumber is the span of all numbers that chapters, lines and words of editions may have.
func anyNumber() api.Span { return api.Span{Lo: 1, Hi: api.MaxNumber} }

func isRef(r api.Ref) bool { return within(anyNumber(), r.Chapter, r.Line, r.Word) }

// bound is one of the numbers that a stretch has, and the span in which it has to be. The span may be asked for only if the bounds before it hold.
type bound struct {
	number func(s api.Stretch) int
	span   func(t api.Text, s api.Stretch) api.Span
}

// bounds is the table of what a stretch is checked by.
func bounds() [5]bound {
	return [...]bound{
		{
			number: func(s api.Stretch) int { return s.Chapter },
			span:   func(t api.Text, s api.Stretch) api.Span { return api.Span{Lo: 0, Hi: len(t.Chapters) - 1} },
		},
		{
			number: func(s api.Stretch) int { return s.From },
			span: func(t api.Text, s api.Stretch) api.Span {
				return api.Span{Lo: 0, Hi: len(t.Chapters[s.Chapter].Lines) - 1}
			},
		},
		{
			number: func(s api.Stretch) int { return s.To },
			span: func(t api.Text, s api.Stretch) api.Span {
				return api.Span{Lo: s.From + 1, Hi: len(t.Chapters[s.Chapter].Lines)}
			},
		},
		{
			number: func(s api.Stretch) int { return s.As },
			span:   func(t api.Text, s api.Stretch) api.Span { return anyNumber() },
		},
		{
			number: func(s api.Stretch) int { return s.First },
			span: func(t api.Text, s api.Stretch) api.Span {
				return api.Span{Lo: 1, Hi: api.MaxNumber - (s.To - s.From) + 1}
			},
		},
	}
}

func isStretch(t api.Text, s api.Stretch) bool {
	for _, b := range bounds() {
		if !within(b.span(t, s), b.number(s)) {
			return false
		}
	}
	return true
}

func isEdition(t api.Text, e api.Edition) bool {
	if !within(api.Span{Lo: 0, Hi: api.MaxId}, e.Id) || len(e.Stretches) > api.MaxStretches {
		return false
	}
	return !slices.ContainsFunc(e.Stretches, func(s api.Stretch) bool { return !isStretch(t, s) })
}

// clash returns the indices of the first two stretches that clash, and whether there are such.
func (e edition) clash() (first, second int, found bool) {
search:
	for a := range len(e.Stretches) {
		for b := a + 1; b < len(e.Stretches); b++ {
			if clashes(e.Stretches[a], e.Stretches[b]) {
				first, second, found = a, b, true
				break search
			}
		}
	}
	return first, second, found
}

// clashes tells whether some line of the base is in both stretches, or some line of the edition.
func clashes(a, b api.Stretch) bool {
	return a.Chapter == b.Chapter && meet(baseLines(a), baseLines(b)) || a.As == b.As && meet(ownLines(a), ownLines(b))
}

// baseLines is the lines of the base that are in a stretch, ownLines those of the edition.
func baseLines(s api.Stretch) api.Span { return api.Span{Lo: s.From, Hi: s.To - 1} }

func ownLines(s api.Stretch) api.Span {
	return api.Span{Lo: s.First, Hi: s.First + s.To - s.From - 1}
}

func meet(a, b api.Span) bool { return a.Lo <= b.Hi && b.Lo <= a.Hi }

// starts returns the first place of each line of a text, in order.
func starts(t api.Text) []api.Place {
	var l []api.Place
	for i, c := range t.Chapters {
		for n := range len(c.Lines) {
			l = append(l, api.Place{Chapter: i, Line: n})
		}
	}
	return l
}

// numbersOf returns the numbers that the line of a place has, and whether it is in a stretch.
func (e edition) numbersOf(p api.Place) (numbers, bool) {
	for _, s := range e.Stretches {
		if s.Chapter == p.Chapter && within(baseLines(s), p.Line) {
			return numbers{s.As, s.First + p.Line - s.From}, true
		}
	}
	return numbers{}, false
}

// lines yields the lines that are there, by the places of their first words and their numbers, in the order of the base.
func (e edition) lines() iter.Seq2[api.Place, numbers] {
	return func(yield func(api.Place, numbers) bool) {
		for _, at := range starts(e.text) {
			n, there := e.numbersOf(at)
			if there && !yield(at, n) {
				return
			}
		}
	}
}

// linesOf returns the numbers of all lines that a chapter of a sound edition has.
func (e edition) linesOf(chapter int) []numbers {
	var l []numbers
	for _, n := range e.lines() {
		if n[0] == chapter {
			l = append(l, n)
		}
	}
	return l
}

// lastLine returns the greatest number of a line, or 0 if there are no lines.
func lastLine(l []numbers) int {
	last := 0
	for _, n := range l {
		last = max(last, n[1])
	}
	return last
}

// byNumbers returns the lines of a sound edition by their numbers, as the places of their first words.
func (e edition) byNumbers() map[numbers]api.Place {
	places := map[numbers]api.Place{}
	for at, n := range e.lines() {
		places[n] = at
	}
	return places
}

// picked returns those things of a list of which something is so.
func picked[T any](l []T, isSo func(x T) bool) []T {
	var some []T
	for _, x := range l {
		if isSo(x) {
			some = append(some, x)
		}
	}
	return some
}
