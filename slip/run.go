package slip

import (
	"iter"
	"slices"
	"strings"

	"postil/api"
)

// run is the words of a chapter at work, one line behind the other, with their places, and the cut by which they get their contexts.
type run struct {
	api.Cut
	words  []string
	places []api.Place
}

// runOf returns the run of a chapter of a valid text, by its index.
func runOf(t api.Text, c api.Cut, chapter int) run {
	r := run{Cut: c}
	for n, line := range t.Chapters[chapter].Lines {
		for w, word := range line {
			r.words = append(r.words, word)
			r.places = append(r.places, api.Place{Chapter: chapter, Line: n, Word: w})
		}
	}
	return r
}

// runs returns the runs of all chapters of a valid text, in order.
func runs(t api.Text, c api.Cut) []run {
	var l []run
	for i := range len(t.Chapters) {
		l = append(l, runOf(t, c, i))
	}
	return l
}

// context is some words of a run around one of them: how many are before it and after it, and how long all of them are.
type context struct{ before, after, length int }

// contexts yields all contexts that fit of the word at an index, from those that begin last on.
func (r run) contexts(at int) iter.Seq[context] {
	return func(yield func(context) bool) {
		begun := 0
	begin:
		for before := range at + 1 {
			begun = longer(begun, r.words[at-before])
			length := begun
			for after := range len(r.words) - at {
				if after > 0 {
					length = longer(length, r.words[at+after])
				}
				if length > r.Width {
					// With one more word after it, it would be longer still.
					continue begin
				}
				if !yield(context{before, after, length}) {
					return
				}
			}
		}
	}
}

// longer returns the length of words with one word more, which has a space between it and them if there are any.
func longer(length int, word string) int {
	if length > 0 {
		length++
	}
	return length + len(word)
}

// side is which one goes ahead of two contexts that are as long.
type side struct {
	ahead func(a, b context) bool
}

// sides is the table of the sides of cuts; what is at 0 is none of them.
func sides() [api.SideEven + 1]side {
	return [...]side{
		api.SideLeft:  {ahead: func(a, b context) bool { return a.before > b.before }},
		api.SideRight: {ahead: func(a, b context) bool { return a.before < b.before }},
		api.SideEven: {ahead: func(a, b context) bool {
			if a.uneven() != b.uneven() {
				return a.uneven() < b.uneven()
			}
			return a.before < b.before
		}},
	}
}

// uneven returns by how many the words before the place and those after it differ.
func (x context) uneven() int { return max(x.before-x.after, x.after-x.before) }

// context returns the context, by the cut, of the word at an index.
func (r run) context(at int) context {
	chosen := sides()[r.Side]
	return first(r.contexts(at), func(a, b context) bool {
		if a.length != b.length {
			return a.length > b.length
		}
		return chosen.ahead(a, b)
	})
}

// first returns the one of some things that goes ahead of all others.
func first[T any](l iter.Seq[T], ahead func(a, b T) bool) T {
	var best T
	found := false
	for x := range l {
		if !found || ahead(x, best) {
			best, found = x, true
		}
	}
	return best
}

// slip returns the slip of the word at an index.
func (r run) slip(at int) api.Slip {
	x := r.context(at)
	return api.Slip{
		At:     r.places[at],
		Word:   r.words[at],
		Before: strings.Join(r.words[at-x.before:at], " "),
		After:  strings.Join(r.words[at+1:at+1+x.after], " "),
	}
}

// from returns the places of all words of the run that stand as in a slip, with its words before and after them.
func (r run) from(s api.Slip) []api.Place {
	before := strings.Fields(s.Before)
	whole := slices.Concat(before, []string{s.Word}, strings.Fields(s.After))
	var l []api.Place
	for begin := range len(r.words) - len(whole) + 1 {
		if slices.Equal(r.words[begin:begin+len(whole)], whole) {
			l = append(l, r.places[begin+len(before)])
		}
	}
	return l
}
