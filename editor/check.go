package editor

import (
	"cmp"
	"slices"
	"strings"

	"postil/api"
	"postil/hand"
	"postil/leaf"
	"postil/sheaf"
	"postil/slip"
	"postil/stem"
	"postil/tome"
)

// within tells whether all numbers are in a span.
func within(s api.Span, numbers ...int) bool {
	for _, n := range numbers {
		if n < s.Lo || n > s.Hi {
			return false
		}
	}
	return true
}

// areWords tells whether these are words that may be a line.
func areWords(words ...string) bool {
	return leaf.Check(api.Text{Chapters: []api.Chapter{{Lines: [][]string{words}}}}) == api.OK
}

// first returns the index of the first thing of a list of which something is so: how many things there are, if it is so of none.
func first[T any](l []T, isSo func(x T) bool) int {
	for n, x := range l {
		if isSo(x) {
			return n
		}
	}
	return len(l)
}

func compareHeads(a, b api.Head) int {
	return cmp.Or(strings.Compare(a.Stem, b.Stem), cmp.Compare(a.Mark, b.Mark))
}

func isOffice(o api.Office) bool {
	// Without copies, tome.Check asks for just what an office's records have to be.
	return isRound(o) && tome.Check(recordsOf(o)) == api.OK && areSlips(o) && isShelf(o) && arePrinted(o)
}

// isRound tells whether an office may have its round on its day.
func isRound(o api.Office) bool {
	if !within(api.Span{Lo: 0, Hi: api.MaxDay}, o.Day) || hand.Check(o.Round) != api.OK {
		return false
	}
	for part := range len(o.Round.Shares) {
		isBack := o.Round.Sheets[part].Back
		if o.Round.Shares[part].Sent > o.Day || isBack && backOf(o, part) > o.Day {
			return false
		}
	}
	return true
}

// backOf returns the day on which a part of an office with a valid round is back.
func backOf(o api.Office, part int) int {
	day, _ := hand.Back(o.Round, part)
	return day
}

// recordsOf returns what the volume of an office is made of.
func recordsOf(o api.Office) api.Records {
	return api.Records{Text: o.Round.Text, Lexicon: o.Lexicon, Edition: o.Edition, Cut: o.Cut}
}

// areSlips tells whether an office with a valid text and cut may have its slips.
func areSlips(o api.Office) bool {
	if len(o.Slips) > api.MaxDeck {
		return false
	}
	for _, s := range o.Slips {
		wrong, e := slip.Wrong(o.Round.Text, o.Cut, s)
		if e != api.OK || wrong != api.WrongNone {
			return false
		}
	}
	// Two slips of the same place take but one place.
	words, _ := leaf.Words(o.Round.Text)
	return len(freeOf(o))+len(o.Slips) == words
}

// freeOf returns the places of the text of an office that have no slip yet.
func freeOf(o api.Office) map[api.Place]bool {
	free := map[api.Place]bool{}
	for i, c := range o.Round.Text.Chapters {
		for n, line := range c.Lines {
			for w := range line {
				free[api.Place{Chapter: i, Line: n, Word: w}] = true
			}
		}
	}
	for _, s := range o.Slips {
		delete(free, s.At)
	}
	return free
}

// isShelf tells whether an office with a valid text may have its shelf.
func isShelf(o api.Office) bool {
	if sheaf.CheckShelf(o.Shelf) != api.OK {
		return false
	}
	for n := range generations(o) {
		if _, e := sheaf.ToLexicon(o.Round.Text, generation(o, n)); e != api.OK {
			return false
		}
	}
	return true
}

// generations returns how many generations an office with a valid shelf has.
func generations(o api.Office) int { return 1 + len(o.Shelf.Changes) }

// generation returns the rows of a generation that an office with a valid shelf has.
func generation(o api.Office, n int) []string {
	rows, _ := sheaf.Back(o.Shelf, n)
	return rows
}

// arePrinted tells whether an office with a valid text and lexicon may have its printed heads.
func arePrinted(o api.Office) bool {
	if len(o.Printed) > api.MaxPrinted {
		return false
	}
	heads, _ := stem.Heads(o.Round.Text, o.Lexicon)
	for n, h := range o.Printed {
		if !slices.Contains(heads, h) || n > 0 && compareHeads(o.Printed[n-1], h) >= 0 {
			return false
		}
	}
	return true
}
