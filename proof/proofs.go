package proof

import (
	"iter"
	"slices"

	"postil/api"
	"postil/leaf"
)

// proofs is proofs at work: they have the places of each line of their text, by the numbers of lines.
type proofs struct {
	api.Proofs
	lines [][]api.Place
}

// begin returns proofs at work: leaf.Check's error of their text, and ErrProofs unless they are valid.
func begin(p api.Proofs) (proofs, api.Errno) {
	if e := leaf.Check(p.Text); e != api.OK {
		return proofs{}, e
	}
	work := proofs{Proofs: p, lines: linesOf(p.Text)}
	if !areReaders(work.readers()) || !work.arePages() {
		return proofs{}, api.ErrProofs
	}
	return work, api.OK
}

func linesOf(t api.Text) [][]api.Place {
	var l [][]api.Place
	for i, chapter := range t.Chapters {
		for n, line := range chapter.Lines {
			var places []api.Place
			for word := range len(line) {
				places = append(places, api.Place{Chapter: i, Line: n, Word: word})
			}
			l = append(l, places)
		}
	}
	return l
}

// placesOf returns all places of a page, in order.
func (p proofs) placesOf(page api.Page) []api.Place {
	return slices.Concat(p.lines[page.From : page.To+1]...)
}

// The sides from which a page is read.
const (
	sideFirst = iota
	sideSecond
)

// side is a side of a page: who has read the page, or -1, and what this reader found.
type side struct {
	reader func(page api.Page) int
	found  func(page api.Page) []api.Place
}

// sides is the array of both sides.
func sides() [2]side {
	return [...]side{
		sideFirst: {
			reader: func(page api.Page) int { return page.First },
			found:  func(page api.Page) []api.Place { return page.Found },
		},
		sideSecond: {
			reader: func(page api.Page) int { return page.Second },
			found:  func(page api.Page) []api.Place { return page.FoundAsWell },
		},
	}
}

// readers returns the readers of each side.
func (p proofs) readers() [2][]api.Reader {
	return [...][]api.Reader{sideFirst: p.Firsts, sideSecond: p.Seconds}
}

// alone returns all places that only one of both readers found on a page.
func alone(page api.Page) map[api.Place]bool {
	one := map[api.Place]bool{}
	for _, s := range sides() {
		for _, at := range s.found(page) {
			if one[at] {
				delete(one, at)
			} else {
				one[at] = true
			}
		}
	}
	return one
}

// both returns all places that both readers found on a page, in order.
func both(page api.Page) []api.Place {
	one := alone(page)
	return picked(page.Found, func(at api.Place) bool { return !one[at] })
}

// found returns all places that are found on a page, in order.
func (p proofs) found(page api.Page) []api.Place {
	one, two := alone(page), both(page)
	return picked(p.placesOf(page), func(at api.Place) bool { return one[at] || slices.Contains(two, at) })
}

// picked returns a new list of those of some places of which something is so.
func picked(places []api.Place, isSo func(at api.Place) bool) []api.Place {
	var l []api.Place
	for _, at := range places {
		if isSo(at) {
			l = append(l, at)
		}
	}
	return l
}

// guess returns how many errors one may guess on a page, rounded down and rounded up: something was found by both.
func guess(page api.Page) api.Span {
	product, by := len(page.Found)*len(page.FoundAsWell), len(both(page))
	return api.Span{Lo: product / by, Hi: (product + by - 1) / by}
}

// hundredths is how many parts of all errors there are, of which readers miss some.
const hundredths = 100

// bound returns what a reader bounds: the pages that the reader has read, and how many errors these have together, at most, by this reader alone.
func (p proofs) bound(n, reader int) (set, int) {
	s, found := sides()[n], 0
	var pages set
	for i, page := range p.Pages {
		if s.reader(page) == reader {
			pages |= 1 << i
			found += len(s.found(page))
		}
	}
	return pages, hundredths * found / (hundredths - p.readers()[n][reader].Miss)
}

// bounds yields what readers bound, reader by reader, first readers before second ones.
func (p proofs) bounds() iter.Seq2[set, int] {
	return func(yield func(set, int) bool) {
		for n, readers := range p.readers() {
			for reader := range readers {
				if !yield(p.bound(n, reader)) {
					return
				}
			}
		}
	}
}
