package rack_test

import (
	"math"
	"reflect"
	"slices"
	"strings"
	"testing"

	"postil/api"
	"postil/rack"
)

// far is numbers outside of everything that is allowed, of either sign.
var far = []int{math.MinInt, math.MinInt + 1, math.MinInt32, -1, 1000, math.MaxInt32, math.MaxInt - 1, math.MaxInt}

// allBy is all by which slips may be ranked.
var allBy = []uint8{api.ByOrder, api.ByWord, api.ByBefore, api.ByAfter}

// sample is the deck of the chapter's examples.
func sample() []int { return []int{3, 1, 2, 1} }

func slipOf(chapter, line, word int, before, name, after string) api.Slip {
	return api.Slip{At: api.Place{Chapter: chapter, Line: line, Word: word}, Word: name, Before: before, After: after}
}

// words is slips of the first words of lines, with nothing around them.
func words(l ...string) []api.Slip {
	var slips []api.Slip
	for i, word := range l {
		slips = append(slips, slipOf(0, i, 0, "", word, ""))
	}
	return slips
}

// badSlips is slips that are not valid.
func badSlips() []api.Slip {
	var l []api.Slip
	for _, s := range []string{"", "Sea", "the sea", "sea ", " sea", "`", "{", "é", "\x00", "s\xff", "abcdefghijklm", strings.Repeat("a", 300)} {
		l = append(l, slipOf(0, 0, 0, "", s, ""))
	}
	for _, s := range []string{" ", "Sea", "the  sea", "sea ", " sea", "abcdefghijklm", "a\tb", strings.Repeat("a ", 40) + "a"} {
		l = append(l, slipOf(0, 0, 0, s, "a", ""), slipOf(0, 0, 0, "", "a", s))
	}
	return l
}

// falling is a deck of so many slips, each of which is a run of its own.
func falling(slips int) []int {
	var d []int
	for i := range slips {
		d = append(d, slips-i)
	}
	return d
}

// decks is all decks of up to so many slips with ranks below some number.
func decks(slips, ranks int) [][]int {
	all := [][]int{nil}
	for begun := all; slips > 0; slips-- {
		var longer [][]int
		for _, d := range begun {
			for rank := range ranks {
				longer = append(longer, append(slices.Clone(d), rank))
			}
		}
		all, begun = append(all, longer...), longer
	}
	return all
}

// indices is the indices of so many slips, as they are given.
func indices(slips int) []int {
	l := make([]int, slips)
	for i := range l {
		l[i] = i
	}
	return l
}

// at is what a deck has at some indices.
func at(d, l []int) []int {
	var ranks []int
	for _, i := range l {
		ranks = append(ranks, d[i])
	}
	return ranks
}

// orderOf is the order of a deck: rank by rank all indices.
func orderOf(d []int) []int {
	var l []int
	for rank := range api.MaxRank + 1 {
		for i, r := range d {
			if r == rank {
				l = append(l, i)
			}
		}
	}
	return l
}

// runsOf is the runs of a deck, and the pairs at which they end: the word of the document, step by step.
func runsOf(d []int) (runs []int, pairs [][2]int) {
	order := orderOf(d)
	runs = make([]int, len(d))
	for i := 1; i < len(order); i++ {
		runs[order[i]] = runs[order[i-1]]
		if order[i] < order[i-1] {
			runs[order[i]]++
			pairs = append(pairs, [2]int{order[i-1], order[i]})
		}
	}
	return runs, pairs
}

// passesOf is the fewest passes for a deck.
func passesOf(d []int, boxes int) int {
	_, pairs := runsOf(d)
	many, passes := 1, 0
	for many < len(pairs)+1 {
		many *= boxes
		passes++
	}
	return passes
}

// sorted is how slips lie after a plan: what is in lesser boxes comes first, as it lay.
func sorted(slips int, plan [][]int) []int {
	l := indices(slips)
	for _, pass := range plan {
		slices.SortStableFunc(l, func(a, b int) int { return pass[a] - pass[b] })
	}
	return l
}

// moved is how slips lie after moves: what is taken out lies at To then, and all others as they lay.
func moved(slips int, moves []api.Move) []int {
	l := indices(slips)
	for _, m := range moves {
		var others, next []int
		for i, slip := range l {
			if i != m.From {
				others = append(others, slip)
			}
		}
		for i := range l {
			if i == m.To {
				next = append(next, l[m.From])
				continue
			}
			next = append(next, others[0])
			others = others[1:]
		}
		l = next
	}
	return l
}

// dice are numbers that look like chance, the same ones in each run.
type dice uint64

// roll is a number below n.
func (d *dice) roll(n int) int {
	*d = *d*6364136223846793005 + 1442695040888963407
	return int(uint64(*d) >> 33 % uint64(n))
}

// one is one of several things.
func one[T any](d *dice, l ...T) T { return l[d.roll(len(l))] }

// deck is a deck of up to so many slips, some of which have the same ranks.
func (d *dice) deck(slips int) []int {
	var l []int
	ranks := one(d, 2, 5, 20, 100, 1000)
	for range d.roll(slips + 1) {
		l = append(l, d.roll(ranks))
	}
	return l
}

// shuffle puts a list into another order.
func shuffle[T any](d *dice, l []T) {
	for i := range l {
		j := i + d.roll(len(l)-i)
		l[i], l[j] = l[j], l[i]
	}
}

// plan is a plan of so many passes for so many slips.
func (d *dice) plan(slips, boxes, passes int) [][]int {
	plan := make([][]int, passes)
	for k := range plan {
		for range slips {
			plan[k] = append(plan[k], d.roll(boxes))
		}
	}
	return plan
}

// slips is up to so many slips, which are alike in something often.
func (d *dice) slips(most int) []api.Slip {
	var l []api.Slip
	around := []string{"", "", "a", "b", "a a", "a b", "ab"}
	for range d.roll(most + 1) {
		l = append(l, slipOf(d.roll(3)-1, d.roll(3), d.roll(2), one(d, around...), one(d, "a", "aa", "ab", "b"), one(d, around...)))
	}
	return l
}

// text is a text of up to 60 words, which come often.
func (d *dice) text() api.Text {
	var t api.Text
	for i := range 1 + d.roll(3) {
		c := api.Chapter{Id: i}
		for range 1 + d.roll(4) {
			var line []string
			for range 1 + d.roll(5) {
				line = append(line, one(d, "a", "b", "ab", "sea", "old", "z"))
			}
			c.Lines = append(c.Lines, line)
		}
		t.Chapters = append(t.Chapters, c)
	}
	return t
}

// input is arguments for all calls.
type input struct {
	d     []int
	boxes int
	plan  [][]int
	moves []api.Move
	l     []api.Slip
	by    uint8
}

// outcome is what a call returned: its results, and its error.
type outcome struct {
	call    string
	results []any
	e       api.Errno
}

// all is what all calls return.
func (x input) all() []outcome {
	var l []outcome
	add := func(call string, e api.Errno, results ...any) { l = append(l, outcome{call, results, e}) }
	add("Check", rack.Check(x.d))
	ranks, e := rack.Ranks(x.l, x.by)
	add("Ranks", e, ranks)
	runs, e := rack.Runs(x.d)
	add("Runs", e, runs)
	passes, e := rack.Passes(x.d, x.boxes)
	add("Passes", e, passes)
	plan, e := rack.Plan(x.d, x.boxes)
	add("Plan", e, plan)
	lie, e := rack.Sort(x.d, x.boxes, x.plan)
	add("Sort", e, lie)
	pairs, e := rack.Proof(x.d, x.boxes)
	add("Proof", e, pairs)
	keep, e := rack.Keep(x.d)
	add("Keep", e, keep)
	chains, e := rack.Chains(x.d)
	add("Chains", e, chains)
	moves, e := rack.Mend(x.d)
	add("Mend", e, moves)
	lie, e = rack.Moved(x.d, x.moves)
	add("Moved", e, lie)
	filed, passes, e := rack.File(x.l, x.by, x.boxes)
	add("File", e, filed, passes)
	return l
}

// wantErrors checks the errors of calls that are named, and that no call with an error has a result.
func wantErrors(t *testing.T, x input, e api.Errno, calls ...string) {
	t.Helper()
	for _, o := range x.all() {
		if slices.Contains(calls, o.call) && o.e != e {
			t.Errorf("%s of %+v: %v, not %v", o.call, x, o.e, e)
		}
		if o.e != api.OK && slices.ContainsFunc(o.results, func(result any) bool { return !isZero(result) }) {
			t.Errorf("%s of %+v: %v, with the results %v", o.call, x, o.e, o.results)
		}
	}
}

func isZero(x any) bool {
	v := reflect.ValueOf(x)
	return v.IsZero() || v.Kind() == reflect.Slice && v.Len() == 0
}

// wantList checks a list, and that its error is OK.
func wantList[T comparable](t *testing.T, what any, l []T, e api.Errno, want ...T) {
	t.Helper()
	if !slices.Equal(l, want) || e != api.OK {
		t.Errorf("%+v: %v, %v, not %v", what, l, e, want)
	}
}

// wantOne checks a result that is no list, and that its error is OK.
func wantOne[T comparable](t *testing.T, what any, x T, e api.Errno, want T) {
	t.Helper()
	wantList(t, what, []T{x}, e, want)
}

// wantPlan checks a plan, and that its error is OK.
func wantPlan(t *testing.T, what any, plan [][]int, e api.Errno, want ...[]int) {
	t.Helper()
	if !slices.EqualFunc(plan, want, slices.Equal) || e != api.OK {
		t.Errorf("%+v: %v, %v, not %v", what, plan, e, want)
	}
}
