package stem

import (
	"slices"
	"strings"

	"postil/api"
)

// within tells whether all numbers are in a span.
func within(s api.Span, numbers ...int) bool {
	for _, n := range numbers {
		if n < s.Lo || n > s.Hi {
			return false
		}
	}
	return true
}

// areLetters tells whether all of a text is letters from a to z.
func areLetters(s string) bool { return strings.Trim(s, "abcdefghijklmnopqrstuvwxyz") == "" }

// someLetters is the span of how many letters a word may have, and an ending that is cut.
func someLetters() api.Span { return api.Span{Lo: 1, Hi: api.MaxLetters} }

func isWord(s string) bool { return within(someLetters(), len(s)) && areLetters(s) }

func isHead(h api.Head) bool {
	return isWord(h.Stem) && within(api.Span{Lo: api.MarkNone, Hi: api.MarkOther}, int(h.Mark))
}

func isRule(r api.Rule) bool {
	return within(someLetters(), len(r.Cut), r.Least) && len(r.Put) <= api.MaxLetters && areLetters(r.Cut) && areLetters(r.Put) && r.Put != r.Cut
}

func areRules(l []api.Rule) bool {
	return len(l) <= api.MaxRules && !slices.ContainsFunc(l, func(r api.Rule) bool { return !isRule(r) })
}

// kind is what decisions of a kind have to be like, and whether one of them concerns a word at a place.
type kind struct {
	fits     func(x lexicon, d api.Decision) bool
	concerns func(d api.Decision, word string, p api.Place) bool
}

// kinds is the table of the kinds of decisions; what is at 0 is none of them.
func kinds() [api.DecideVoid + 1]kind {
	return [...]kind{
		api.DecideForm: {
			fits: func(x lexicon, d api.Decision) bool {
				return isWord(d.Form) && isHead(d.To) && d == api.Decision{Number: d.Number, Kind: d.Kind, Form: d.Form, To: d.To}
			},
			concerns: func(d api.Decision, word string, p api.Place) bool { return d.Form == word },
		},
		api.DecideFrom: {
			fits: func(x lexicon, d api.Decision) bool {
				return isWord(d.Form) && x.hasPlace(d.At) && isHead(d.To) && d.Of == 0
			},
			concerns: func(d api.Decision, word string, p api.Place) bool {
				return d.Form == word && comparePlaces(d.At, p) <= 0
			},
		},
		api.DecidePlace: {
			fits: func(x lexicon, d api.Decision) bool {
				return x.hasPlace(d.At) && isHead(d.To) && d == api.Decision{Number: d.Number, Kind: d.Kind, At: d.At, To: d.To}
			},
			concerns: func(d api.Decision, word string, p api.Place) bool { return d.At == p },
		},
		api.DecideVoid: {
			fits: func(x lexicon, d api.Decision) bool {
				return within(api.Span{Lo: 1, Hi: d.Number - 1}, d.Of) && d == api.Decision{Number: d.Number, Kind: d.Kind, Of: d.Of}
			},
			concerns: func(d api.Decision, word string, p api.Place) bool { return false },
		},
	}
}

// areDecisions tells whether a lexicon of the text may have these decisions, in any order.
func (x lexicon) areDecisions(l []api.Decision) bool {
	if len(l) > api.MaxDecisions {
		return false
	}
	numbered := map[int]bool{}
	for _, d := range l {
		if numbered[d.Number] || !x.isDecision(d) {
			return false
		}
		numbered[d.Number] = true
	}
	return true
}

func (x lexicon) isDecision(d api.Decision) bool {
	return within(api.Span{Lo: 1, Hi: api.MaxNumbered}, d.Number) && within(api.Span{Lo: api.DecideForm, Hi: api.DecideVoid}, int(d.Kind)) && kinds()[d.Kind].fits(x, d)
}
