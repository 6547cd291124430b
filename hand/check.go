package hand

import (
	"slices"

	"postil/api"
	"postil/leaf"
)

// within tells whether all numbers are in a span.
func within(s api.Span, numbers ...int) bool {
	for _, n := range numbers {
		if n < s.Lo || n > s.Hi {
			return false
		}
	}
	return true
}

// isIndex tells whether a list of this length has the index.
func isIndex(i, length int) bool { return within(api.Span{Lo: 0, Hi: length - 1}, i) }

func isDay(day int) bool { return within(api.Span{Lo: 0, Hi: api.MaxDay}, day) }

// textOf returns a text that has one line, so that layer 1 can be asked about lines.
func textOf(line []string) api.Text {
	return api.Text{Chapters: []api.Chapter{{Lines: [][]string{line}}}}
}

func isLine(line []string) bool { return leaf.Check(textOf(line)) == api.OK }

func isHelper(h api.Helper) bool {
	return within(api.Span{Lo: 0, Hi: api.MaxId}, h.Id) && within(api.Span{Lo: 0, Hi: api.MaxPost}, h.Post) && within(api.Span{Lo: 1, Hi: api.MaxRate}, h.Rate)
}

func areHelpers(l []api.Helper) bool {
	if !within(api.Span{Lo: 1, Hi: api.MaxHelpers}, len(l)) {
		return false
	}
	for i, h := range l {
		isSame := func(other api.Helper) bool { return other.Id == h.Id }
		if !isHelper(h) || slices.ContainsFunc(l[:i], isSame) {
			return false
		}
	}
	return true
}

// areShares tells whether the round, with its helpers, may have these shares.
func (r round) areShares(l []api.Share) bool {
	if len(l) > api.MaxParts {
		return false
	}
	for i, s := range l {
		if !r.isShare(s) || !isBehind(s, l[:i]) {
			return false
		}
	}
	return true
}

func (r round) isShare(s api.Share) bool {
	return isIndex(s.From, len(r.lines)) && within(api.Span{Lo: s.From, Hi: len(r.lines) - 1}, s.To) && isIndex(s.Helper, len(r.Helpers)) && isDay(s.Sent)
}

// isBehind tells whether a share may be behind these, which are there before it.
func isBehind(s api.Share, before []api.Share) bool {
	n := len(before)
	if n > 0 && (s.From <= before[n-1].From || s.To <= before[n-1].To) {
		return false
	}
	return n < 2 || s.From > before[n-2].To
}

// areSheets tells whether the round, with its shares, may have these sheets.
func (r round) areSheets(l []api.Sheet) bool {
	return len(l) == len(r.Shares) && !slices.ContainsFunc(l, func(s api.Sheet) bool { return !isSheet(s) })
}

func isSheet(s api.Sheet) bool {
	if !s.Back {
		return len(s.Lines) == 0
	}
	return len(s.Lines) <= api.MaxSheet && !slices.ContainsFunc(s.Lines, func(line []string) bool { return !isLine(line) })
}
