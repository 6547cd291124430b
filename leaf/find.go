package leaf

import (
	"iter"
	"slices"

	"postil/api"
)

// far is more than the fewest readings between any two lines.
const far = 2*api.MaxWords + 1

// pair is a line of two texts, and the fewest readings that make the second one of the first one, for what is left of both from each of their words on.
// Behind the end of either line it is far, so that no way leads there.
type pair struct {
	from, to []string
	fewest   [api.MaxWords + 2][api.MaxWords + 2]int
}

// beginAlike returns the first one of two texts at work: ErrText unless both are valid, ErrBad unless they are alike.
func beginAlike(t, u api.Text) (text, api.Errno) {
	if !isText(t) || !isText(u) {
		return text{}, api.ErrText
	}
	alike := slices.EqualFunc(t.Chapters, u.Chapters, func(a, b api.Chapter) bool {
		return a.Id == b.Id && len(a.Lines) == len(b.Lines)
	})
	if !alike {
		return text{}, api.ErrBad
	}
	return text{t}, api.OK
}

// pairs yields the lines of the text, each with that of a text that is alike, and the places of their first words, in order.
func (t text) pairs(u api.Text) iter.Seq2[api.Place, pair] {
	return func(yield func(api.Place, pair) bool) {
		for at, line := range t.lines() {
			if !yield(at, newPair(line, text{u}.lineOf(at))) {
				return
			}
		}
	}
}

func newPair(from, to []string) pair {
	p := pair{from: from, to: to}
	for i := range len(p.fewest) {
		for j := range len(p.fewest[i]) {
			p.fewest[i][j] = far
		}
	}
	p.fewest[len(from)][len(to)] = 0
	for i := len(from); i >= 0; i-- {
		for j := len(to); j >= 0; j-- {
			p.fill(i, j)
		}
	}
	return p
}

// fill finds the fewest readings from two words on, by those from later ones on.
func (p *pair) fill(i, j int) {
	if i == len(p.from) && j == len(p.to) {
		return
	}
	if p.same(i, j) {
		p.fewest[i][j] = p.fewest[i+1][j+1]
		return
	}
	p.fewest[i][j] = 1 + min(p.fewest[i+1][j+1], p.fewest[i+1][j], p.fewest[i][j+1])
}

// same tells whether both lines have these words, and they are the same.
func (p *pair) same(i, j int) bool {
	return i < len(p.from) && j < len(p.to) && p.from[i] == p.to[j]
}

// readings returns the readings that make the second line of the first one, which begins at a place.
func (p *pair) readings(at api.Place) []api.Reading {
	var l []api.Reading
	i, j := 0, 0
	for i < len(p.from) || j < len(p.to) {
		if p.same(i, j) {
			i, j = i+1, j+1
			continue
		}
		at.Word = i
		switch kind := p.kind(i, j); kind {
		case api.ReadOther:
			l = append(l, api.Reading{At: at, Kind: kind, Word: p.to[j]})
			i, j = i+1, j+1
		case api.ReadOmit:
			l = append(l, api.Reading{At: at, Kind: kind})
			i++
		case api.ReadPut:
			l = append(l, api.Reading{At: at, Kind: kind, Word: p.to[j]})
			j++
		}
	}
	return l
}

// kind returns which reading comes next where two words are not the same: of those with which the fewest follow, another word goes ahead of one left out, and this ahead of one put in.
func (p *pair) kind(i, j int) uint8 {
	other, omit, put := p.fewest[i+1][j+1], p.fewest[i+1][j], p.fewest[i][j+1]
	if other <= min(omit, put) {
		return api.ReadOther
	}
	if omit <= put {
		return api.ReadOmit
	}
	return api.ReadPut
}
