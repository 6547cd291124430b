package hand_test

import (
	"math"
	"reflect"
	"slices"
	"strings"
	"testing"

	"postil/api"
	"postil/hand"
)

// far is numbers outside of everything that is allowed, of either sign.
var far = []int{math.MinInt, math.MinInt + 1, math.MinInt32, -1, 10000, math.MaxInt32, math.MaxInt - 1, math.MaxInt}

// noWords is texts that are no words.
var noWords = []string{"", "Sea", "the sea", "sea ", " sea", "`", "{", "é", "\x00", "s\xff", "abcdefghijklm", strings.Repeat("a", 300)}

// even is the cut of the chapters' examples.
var even = api.Cut{Width: 14, Side: api.SideEven}

// lines is lines that are parted by strokes, and none of them if there is nothing.
func lines(s string) [][]string {
	var l [][]string
	if s == "" {
		return l
	}
	for line := range strings.SplitSeq(s, "/") {
		l = append(l, strings.Fields(line))
	}
	return l
}

// book is a text of chapters with Ids from 7 down.
func book(chapters ...string) api.Text {
	var t api.Text
	for i, s := range chapters {
		t.Chapters = append(t.Chapters, api.Chapter{Id: 7 - i, Lines: lines(s)})
	}
	return t
}

// numbered is a text of one-word lines, all of them others, so many in each chapter.
func numbered(chapters ...int) api.Text {
	var t api.Text
	n := 0
	for i, many := range chapters {
		c := api.Chapter{Id: i}
		for range many {
			c.Lines = append(c.Lines, []string{named(n)})
			n++
		}
		t.Chapters = append(t.Chapters, c)
	}
	return t
}

// named is a word for a number below 676.
func named(n int) string { return string([]byte{byte('a' + n/26), byte('a' + n%26)}) }

// back is a sheet that is back, with lines that are parted by strokes.
func back(s string) api.Sheet { return api.Sheet{Back: true, Lines: lines(s)} }

// right is the sheet of a share of a text, without a fault.
func right(t api.Text, s api.Share) api.Sheet {
	return api.Sheet{Back: true, Lines: clone(linesOf(t)[s.From : s.To+1])}
}

func clone(l [][]string) [][]string {
	var other [][]string
	for _, line := range l {
		other = append(other, slices.Clone(line))
	}
	return other
}

func share(from, to, helper, sent int) api.Share {
	return api.Share{From: from, To: to, Helper: helper, Sent: sent}
}

func place(chapter, line, word int) api.Place {
	return api.Place{Chapter: chapter, Line: line, Word: word}
}

// sample is the round of the chapter's examples.
func sample() api.Round {
	t := book("the sea is old/old the sea", "sea and sea")
	t.Chapters[1].Id = 3
	return api.Round{
		Text:    t,
		Helpers: []api.Helper{{Id: 1, Post: 2, Rate: 1}, {Id: 0, Post: 5, Rate: 3}},
		Shares:  []api.Share{share(0, 1, 0, 3), share(1, 2, 1, 4)},
		Sheets:  []api.Sheet{back("the sea is old/old a sea"), back("old the sea/sea and sea")},
	}
}

// parts is a round of one helper, whose parts are of a text, with sheets in their order.
func parts(t api.Text, shares []api.Share, sheets ...api.Sheet) api.Round {
	return api.Round{Text: t, Helpers: []api.Helper{{Rate: 1}}, Shares: shares, Sheets: sheets}
}

// with is a round in which something is changed: its lists are others then.
func with(r api.Round, change func(r *api.Round)) api.Round {
	var t api.Text
	for _, c := range r.Text.Chapters {
		t.Chapters = append(t.Chapters, api.Chapter{Id: c.Id, Lines: clone(c.Lines)})
	}
	other := api.Round{Text: t, Helpers: slices.Clone(r.Helpers), Shares: slices.Clone(r.Shares)}
	for _, s := range r.Sheets {
		other.Sheets = append(other.Sheets, api.Sheet{Back: s.Back, Lines: clone(s.Lines)})
	}
	change(&other)
	return other
}

// linesOf is all lines of a text, by their numbers.
func linesOf(t api.Text) [][]string {
	var l [][]string
	for _, c := range t.Chapters {
		l = append(l, c.Lines...)
	}
	return l
}

// all is all lists of different indices below n, in increasing order, the shortest ones first, and those of a length by their first index that differs.
func all(n int) [][]int {
	var l [][]int
	var more func(begun []int, from, left int)
	more = func(begun []int, from, left int) {
		if left == 0 {
			l = append(l, slices.Clone(begun))
		}
		for i := from; left > 0 && i < n; i++ {
			more(append(begun, i), i+1, left-1)
		}
	}
	for length := range n + 1 {
		more(nil, 0, length)
	}
	return l
}

// size is how many lines a share has.
func size(s api.Share) int { return s.To - s.From + 1 }

// tornOf is the parts that are torn, and pairsOf the pairs that differ, by the word of the document: line by line of the text.
func tornOf(r api.Round) []int {
	var l []int
	for i, s := range r.Sheets {
		if s.Back && len(s.Lines) != size(r.Shares[i]) {
			l = append(l, i)
		}
	}
	return l
}

func pairsOf(r api.Round) [][2]int {
	var l [][2]int
	torn := tornOf(r)
	for a := range r.Shares {
		for b := a + 1; b < len(r.Shares); b++ {
			if !r.Sheets[a].Back || !r.Sheets[b].Back || slices.Contains(torn, a) || slices.Contains(torn, b) {
				continue
			}
			for n := range linesOf(r.Text) {
				x, y := lineAt(r, a, n), lineAt(r, b, n)
				if x != nil && y != nil && !slices.Equal(x, y) {
					l = append(l, [2]int{a, b})
					break
				}
			}
		}
	}
	return l
}

// lineAt is the line with a number as a part has it that is back and not torn, or nil if it has none.
func lineAt(r api.Round, part, n int) []string {
	s := r.Shares[part]
	if n < s.From || n > s.To {
		return nil
	}
	return r.Sheets[part].Lines[n-s.From]
}

// isEnough tells whether all that are torn, and one of each two that differ, are in a list.
func isEnough(r api.Round, l []int) bool {
	for _, part := range tornOf(r) {
		if !slices.Contains(l, part) {
			return false
		}
	}
	for _, pair := range pairsOf(r) {
		if !slices.Contains(l, pair[0]) && !slices.Contains(l, pair[1]) {
			return false
		}
	}
	return true
}

// againOf is the parts that are to be written again: the first list that is enough, of all of them.
func againOf(r api.Round) []int {
	for _, l := range all(len(r.Shares)) {
		if isEnough(r, l) {
			return l
		}
	}
	return nil
}

// dice are numbers that look like chance, the same ones in each run.
type dice uint64

// roll is a number below n.
func (d *dice) roll(n int) int {
	*d = *d*6364136223846793005 + 1442695040888963407
	return int(uint64(*d) >> 33 % uint64(n))
}

// one is one of several things.
func one[T any](d *dice, l ...T) T { return l[d.roll(len(l))] }

// line is a line of up to so many words, which come often.
func (d *dice) line(most int) []string {
	var l []string
	for range 1 + d.roll(most) {
		l = append(l, one(d, "a", "b"))
	}
	return l
}

// text is a text of chapters, with up to so many lines each, and of half as many chapters and one.
func (d *dice) text(lines int) api.Text {
	var t api.Text
	for i := range 1 + d.roll(1+lines/2) {
		c := api.Chapter{Id: i}
		for range 1 + d.roll(lines) {
			c.Lines = append(c.Lines, d.line(3))
		}
		t.Chapters = append(t.Chapters, c)
	}
	return t
}

// shares is parts of a text of so many lines, which overlap often, of helpers.
func (d *dice) shares(lines, helpers int) []api.Share {
	var l []api.Share
	least := func(n int, of func(s api.Share) int) int {
		if len(l) < n {
			return 0
		}
		return of(l[len(l)-n]) + 1
	}
	fromOf, toOf := func(s api.Share) int { return s.From }, func(s api.Share) int { return s.To }
	for range one(d, 0, 1, 2, 3, 4, 6, 8, 8, 8) {
		from := max(least(1, fromOf), least(2, toOf)) + d.roll(2)*d.roll(2)*d.roll(2)
		to := max(from, least(1, toOf)) + d.roll(3)
		if to >= lines {
			break
		}
		l = append(l, share(from, to, d.roll(helpers), d.roll(30)))
	}
	return l
}

// write is a sheet of a share of a text, written with faults in one of so many lines, which are written so many times, and what these cost. No sheet has too many lines.
func (d *dice) write(t api.Text, s api.Share, oneOf int, often ...int) (api.Sheet, int) {
	sheet, cost := api.Sheet{Back: true}, 0
	for _, line := range linesOf(t)[s.From : s.To+1] {
		first, times := slices.Clone(line), 1
		if d.roll(oneOf) == 0 {
			first, times = d.line(3), one(d, often...)
		}
		if times == 0 {
			cost++
			continue
		}
		sheet.Lines = append(sheet.Lines, first)
		cost += apart(line, first) + times - 1
		for range times - 1 {
			sheet.Lines = append(sheet.Lines, slices.Clone(line))
		}
	}
	if len(sheet.Lines) > api.MaxSheet {
		return right(t, s), 0
	}
	return sheet, cost
}

// apart is the fewest readings between two lines: a word left out, put in, or another one.
func apart(a, b []string) int {
	if len(a) == 0 || len(b) == 0 {
		return len(a) + len(b)
	}
	if a[0] == b[0] {
		return apart(a[1:], b[1:])
	}
	return 1 + min(apart(a[1:], b[1:]), apart(a[1:], b), apart(a, b[1:]))
}

// round is a valid round of a text with up to so many lines in a chapter, some of whose parts are back, written with faults, and what these cost, for each part.
func (d *dice) round(lines int) (api.Round, []int) {
	r := api.Round{Text: d.text(lines)}
	for i := range 1 + d.roll(api.MaxHelpers) {
		r.Helpers = append(r.Helpers, api.Helper{Id: i, Post: d.roll(9), Rate: 1 + d.roll(3)})
	}
	r.Shares = d.shares(len(linesOf(r.Text)), len(r.Helpers))
	costs := make([]int, len(r.Shares))
	r.Sheets = make([]api.Sheet, len(r.Shares))
	often := one(d, []int{1}, []int{0, 1, 1, 1, 2, 3})
	for i, s := range r.Shares {
		if d.roll(9) > 0 {
			r.Sheets[i], costs[i] = d.write(r.Text, s, one(d, 2, 4, 1000), often...)
		}
	}
	return r, costs
}

// input is arguments for all calls.
type input struct {
	r       api.Round
	n, part int
	c       api.Cut
	day     int
}

// outcome is what a call returned: its results, and its error.
type outcome struct {
	call    string
	results []any
	e       api.Errno
}

// all is what all calls return.
func (x input) all() []outcome {
	var l []outcome
	add := func(call string, e api.Errno, results ...any) { l = append(l, outcome{call, results, e}) }
	add("Check", hand.Check(x.r))
	line, e := hand.Line(x.r, x.n)
	add("Line", e, line)
	gaps, e := hand.Gaps(x.r)
	add("Gaps", e, gaps)
	day, e := hand.Back(x.r, x.part)
	add("Back", e, day)
	torn, e := hand.Torn(x.r)
	add("Torn", e, torn)
	differ, e := hand.Differ(x.r)
	add("Differ", e, differ)
	again, e := hand.Again(x.r)
	add("Again", e, again)
	torn, pairs, e := hand.Proof(x.r)
	add("Proof", e, torn, pairs)
	faults, e := hand.Explain(x.r, x.part)
	add("Explain", e, faults)
	doubt, e := hand.Doubt(x.r, x.c)
	add("Doubt", e, doubt)
	helpers, last, e := hand.Assign(x.r, x.day)
	add("Assign", e, helpers, last)
	return l
}

// wantErrors checks the errors of calls that are named, and that no call with an error has a result.
func wantErrors(t *testing.T, x input, e api.Errno, calls ...string) {
	t.Helper()
	for _, o := range x.all() {
		if slices.Contains(calls, o.call) && o.e != e {
			t.Errorf("%s of %+v: %v, not %v", o.call, x, o.e, e)
		}
		if o.e != api.OK && slices.ContainsFunc(o.results, func(result any) bool { return !isZero(result) }) {
			t.Errorf("%s of %+v: %v, with the results %v", o.call, x, o.e, o.results)
		}
	}
}

// wantAllErrors checks that all calls return the same error.
func wantAllErrors(t *testing.T, x input, e api.Errno) {
	t.Helper()
	wantErrors(t, x, e, "Check", "Line", "Gaps", "Back", "Torn", "Differ", "Again", "Proof", "Explain", "Doubt", "Assign")
}

func isZero(x any) bool {
	v := reflect.ValueOf(x)
	return v.IsZero() || v.Kind() == reflect.Slice && v.Len() == 0
}

// wantList checks a list, and that its error is OK.
func wantList[T comparable](t *testing.T, what any, l []T, e api.Errno, want ...T) {
	t.Helper()
	if !slices.Equal(l, want) || e != api.OK {
		t.Errorf("%+v: %v, %v, not %v", what, l, e, want)
	}
}

// wantOne checks a result that is no list, and that its error is OK.
func wantOne[T comparable](t *testing.T, what any, x T, e api.Errno, want T) {
	t.Helper()
	wantList(t, what, []T{x}, e, want)
}
