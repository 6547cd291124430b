package rack

import (
	"slices"

	"postil/api"
	"postil/slip"
)

// within tells whether all numbers are in a span.
func within(s api.Span, numbers ...int) bool {
	for _, n := range numbers {
		if n < s.Lo || n > s.Hi {
			return false
		}
	}
	return true
}

// isDeck tells whether ranks are those of a deck: those from one that is wrong on are not counted.
func isDeck(d []int) bool {
	if len(d) > api.MaxDeck {
		return false
	}
	right := 0
rank:
	for _, n := range d {
		if !within(api.Span{Lo: 0, Hi: api.MaxRank}, n) {
			break rank
		}
		right++
	}
	return right == len(d)
}

func areBoxes(boxes int) bool { return within(api.Span{Lo: 2, Hi: api.MaxBoxes}, boxes) }

// isPlan tells whether a plan may be one of so many slips, by so many boxes.
func isPlan(plan [][]int, slips, boxes int) bool {
	if len(plan) > api.MaxPasses {
		return false
	}
	return !slices.ContainsFunc(plan, func(pass []int) bool {
		return len(pass) != slips || !within(api.Span{Lo: 0, Hi: boxes - 1}, pass...)
	})
}

// areMoves tells whether a deck of so many slips may have these moves.
func areMoves(l []api.Move, slips int) bool {
	return !slices.ContainsFunc(l, func(m api.Move) bool {
		return !within(api.Span{Lo: 0, Hi: slips - 1}, m.From, m.To)
	})
}

// checkSlips returns ErrMany if there are too many slips for a deck, and ErrSlip unless all of them are valid.
func checkSlips(l []api.Slip) api.Errno {
	if len(l) > api.MaxDeck {
		return api.ErrMany
	}
	for _, s := range l {
		if _, e := slip.Order(s, s); e != api.OK {
			return e
		}
	}
	return api.OK
}
