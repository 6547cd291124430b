package slip

import (
	"strings"

	"postil/api"
	"postil/leaf"
)

// check returns leaf.Check's error of a text, and ErrCut unless a cut is valid.
func check(t api.Text, c api.Cut) api.Errno {
	if e := leaf.Check(t); e != api.OK {
		return e
	}
	return Check(c)
}

// checkSlips returns ErrSlip unless all slips are valid.
func checkSlips(l ...api.Slip) api.Errno {
	for _, s := range l {
		if !isWord(s.Word) || !isSide(s.Before) || !isSide(s.After) {
			return api.ErrSlip
		}
	}
	return api.OK
}

// checkList returns ErrMany if a list has too many slips, and checkSlips's error.
func checkList(l []api.Slip) api.Errno {
	if len(l) > api.MaxSlips {
		return api.ErrMany
	}
	return checkSlips(l...)
}

// within tells whether all numbers are in a span.
func within(s api.Span, numbers ...int) bool {
	for _, n := range numbers {
		if n < s.Lo || n > s.Hi {
			return false
		}
	}
	return true
}

func isCut(c api.Cut) bool {
	return within(api.Span{Lo: api.MinWidth, Hi: api.MaxWidth}, c.Width) && within(api.Span{Lo: api.SideLeft, Hi: api.SideEven}, int(c.Side))
}

func isWord(s string) bool {
	return within(api.Span{Lo: 1, Hi: api.MaxLetters}, len(s)) && strings.Trim(s, "abcdefghijklmnopqrstuvwxyz") == ""
}

// isSide tells whether a text may be what is before or after the word of a slip.
func isSide(s string) bool {
	if s == "" {
		return true
	}
	if len(s) > api.MaxWidth {
		return false
	}
	// Where there are two spaces together, or one at an end, an empty text is split off, which is no word.
	for word := range strings.SplitSeq(s, " ") {
		if !isWord(word) {
			return false
		}
	}
	return true
}
