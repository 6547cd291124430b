package chart

import (
	"cmp"
	"slices"

	"postil/api"
	"postil/leaf"
)

// spot is a place that is there, and its reference.
type spot struct {
	at  api.Place
	ref api.Ref
}

func comparePlaces(a, b api.Place) int {
	return cmp.Or(cmp.Compare(a.Chapter, b.Chapter), cmp.Compare(a.Line, b.Line), cmp.Compare(a.Word, b.Word))
}

func compareRefs(a, b api.Ref) int {
	return cmp.Or(cmp.Compare(a.Chapter, b.Chapter), cmp.Compare(a.Line, b.Line), cmp.Compare(a.Word, b.Word))
}

// refer returns the reference of a place of the text: ErrNone if it has none.
func (e edition) refer(p api.Place) (api.Ref, api.Errno) {
	n, there := e.numbersOf(p)
	if !there {
		return api.Ref{}, api.ErrNone
	}
	return n.ref(p.Word), api.OK
}

// ref returns the reference of a word, by its index in the line with these numbers.
func (n numbers) ref(word int) api.Ref {
	return api.Ref{Chapter: n[0], Line: n[1], Word: word + 1}
}

// lead returns the place to which a reference leads: ErrNone if it leads to none.
func (e edition) lead(r api.Ref) (api.Place, api.Errno) {
	at, there := e.byNumbers()[numbers{r.Chapter, r.Line}]
	if !there {
		return api.Place{}, api.ErrNone
	}
	at.Word = r.Word - 1
	if _, err := leaf.At(e.text, at); err != api.OK {
		return api.Place{}, api.ErrNone
	}
	return at, api.OK
}

// spots returns all places that are there, in the order of the base.
func (e edition) spots() []spot {
	var l []spot
	for at, n := range e.lines() {
		for w := range len(e.text.Chapters[at.Chapter].Lines[at.Line]) {
			at.Word = w
			l = append(l, spot{at: at, ref: n.ref(w)})
		}
	}
	return l
}

// nearest returns the place of the spot that compare finds to be what is looked for, alone, otherwise those of the last spot before it and of the first one behind it: ErrNone if there is neither. The spots are in the order of compare.
func nearest(l []spot, compare func(s spot) int) ([]api.Place, api.Errno) {
	near := picked(l, func(s spot) bool { return compare(s) == 0 })
	if len(near) == 0 {
		before := picked(l, func(s spot) bool { return compare(s) < 0 })
		behind := picked(l, func(s spot) bool { return compare(s) > 0 })
		near = slices.Concat(before[max(0, len(before)-1):], behind[:min(1, len(behind))])
	}
	if len(near) == 0 {
		return nil, api.ErrNone
	}
	var places []api.Place
	for _, s := range near {
		places = append(places, s.at)
	}
	return places, api.OK
}
