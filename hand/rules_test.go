package hand_test

import (
	"math"
	"reflect"
	"slices"
	"testing"

	"postil/api"
	"postil/hand"
)

// spare is a list with more memory behind its end, in which a mark stands.
func spare[T any](l []T, mark T) []T {
	return append(slices.Clone(l), mark, mark)[:len(l)]
}

// sparedLines is lines of which each one, and the list of them, has more memory behind its end.
func sparedLines(l [][]string) [][]string {
	var other [][]string
	for _, line := range l {
		other = append(other, spare(line, "mark"))
	}
	return spare(other, []string{"mark"})
}

// sparedInput is an input with which all calls are OK, and have results, whose lists have more memory behind their ends.
func sparedInput() input {
	r := chain("ctbb-tab")
	r.Helpers = append(r.Helpers, api.Helper{Id: 1, Post: 2, Rate: 1})
	r.Sheets[2].Lines[1] = []string{"spared"}
	for i, c := range r.Text.Chapters {
		r.Text.Chapters[i].Lines = sparedLines(c.Lines)
	}
	for i, s := range r.Sheets {
		r.Sheets[i].Lines = sparedLines(s.Lines)
	}
	r.Text.Chapters = spare(r.Text.Chapters, api.Chapter{Id: 77})
	r.Helpers = spare(r.Helpers, api.Helper{Id: 77})
	r.Shares = spare(r.Shares, share(7, 7, 7, 7))
	r.Sheets = spare(r.Sheets, api.Sheet{Back: true})
	return input{r: r, n: 3, part: 2, c: even, day: 9}
}

// memoryOf is a copy of all that lists of lines have, up to what is behind their ends.
func memoryOf(l [][]string) any {
	var all []any
	for _, line := range l[:cap(l)] {
		all = append(all, slices.Clone(line[:cap(line)]))
	}
	return all
}

// memory is a copy of all that the lists of arguments have, up to what is behind their ends.
func memory(x input) any {
	var all []any
	for _, c := range x.r.Text.Chapters[:cap(x.r.Text.Chapters)] {
		all = append(all, c.Id, memoryOf(c.Lines))
	}
	for _, s := range x.r.Sheets[:cap(x.r.Sheets)] {
		all = append(all, s.Back, memoryOf(s.Lines))
	}
	return append(all, slices.Clone(x.r.Helpers[:cap(x.r.Helpers)]), slices.Clone(x.r.Shares[:cap(x.r.Shares)]))
}

// R3: no argument is written to, nor the memory behind the end of one; and the same arguments have the same results.
func TestArgumentsAreNotWrittenTo(t *testing.T) {
	x := sparedInput()
	before, first := memory(x), x.all()
	if !reflect.DeepEqual(before, memory(x)) {
		t.Errorf("arguments are %v, not %v any more", memory(x), before)
	}
	for i, o := range x.all() {
		if o.e != api.OK || !reflect.DeepEqual(o, first[i]) {
			t.Errorf("%s: %v, then %v", o.call, first[i], o)
		}
		if slices.ContainsFunc(o.results, isZero) {
			t.Errorf("%s: %v", o.call, o.results)
		}
	}
}

// R3: what is written to a result is seen in no argument, and in no other result.
func TestResultsShareNoMemory(t *testing.T) {
	x := sparedInput()
	before, first, second := memory(x), x.all(), x.all()
	for _, o := range second {
		for i, result := range o.results {
			switch l := result.(type) {
			case []string:
				fill(l, "spoiled")
			case []int:
				fill(l, 66)
			case [][2]int:
				fill(l, [2]int{6, 6})
			case []api.Fault:
				fill(l, skipped(66))
			case []api.Slip:
				fill(l, api.Slip{Word: "spoiled"})
			}
			for j, other := range o.results {
				if want := first[slices.IndexFunc(first, func(f outcome) bool { return f.call == o.call })].results[j]; j > i && !reflect.DeepEqual(other, want) {
					t.Errorf("%s: %v is %v now", o.call, want, other)
				}
			}
		}
	}
	if !reflect.DeepEqual(before, memory(x)) {
		t.Errorf("arguments are %v, not %v any more", memory(x), before)
	}
	if again := x.all(); !reflect.DeepEqual(first, again) {
		t.Errorf("results are %v, not %v any more", again, first)
	}
}

// fill writes to all memory of a list, up to what is behind its end.
func fill[T any](l []T, mark T) {
	l = l[:cap(l)]
	for i := range l {
		l[i] = mark
	}
}

// R3: nothing is remembered of another round.
func TestNothingIsRemembered(t *testing.T) {
	x, y := sparedInput(), input{r: sample(), n: 1, c: even, day: 20}
	first, second := x.all(), y.all()
	if !reflect.DeepEqual(x.all(), first) || !reflect.DeepEqual(y.all(), second) {
		t.Error("results are others now")
	}
}

// wantSame checks that all calls return the same for two inputs, where nil lists and empty ones are the same.
func wantSame(t *testing.T, x, y input) {
	t.Helper()
	others := y.all()
	for i, o := range x.all() {
		for j, result := range o.results {
			other := others[i].results[j]
			if o.e != others[i].e || !reflect.DeepEqual(result, other) && !(isZero(result) && isZero(other)) {
				t.Errorf("%v, not %v", others[i], o)
			}
		}
	}
}

// R4: nil lists and empty ones are the same.
func TestNilAndEmpty(t *testing.T) {
	x := input{r: parts(numbered(3), nil), c: even}
	y := x
	y.r.Shares, y.r.Sheets = []api.Share{}, []api.Sheet{}
	wantErrors(t, x, api.OK, "Check", "Gaps", "Torn", "Differ", "Again", "Proof", "Doubt", "Assign")
	wantSame(t, x, y)
	x.r = parts(numbered(3), []api.Share{share(0, 1, 0, 0), share(2, 2, 0, 0)}, api.Sheet{}, api.Sheet{Back: true})
	for x.part = range 2 {
		y = x
		y.r.Sheets = []api.Sheet{{Lines: [][]string{}}, {Back: true, Lines: [][]string{}}}
		wantErrors(t, x, api.OK, "Check", "Gaps", "Back", "Torn", "Differ", "Again", "Proof", "Doubt", "Assign")
		wantSame(t, x, y)
	}
	y.r.Helpers = []api.Helper{}
	wantAllErrors(t, y, api.ErrRound)
	for _, u := range []api.Text{{Chapters: []api.Chapter{}}, {Chapters: []api.Chapter{{Lines: nil}}}, {Chapters: []api.Chapter{{Lines: [][]string{nil}}}}, {Chapters: []api.Chapter{{Lines: [][]string{{}}}}}} {
		x.r.Text = u
		wantAllErrors(t, x, api.ErrText)
	}
}

// R5 and R7: no call panics, whatever the numbers and texts are, and with an error there is no result.
func TestAnyValues(t *testing.T) {
	numbers := []int{math.MinInt, math.MinInt + 1, -1, 0, 1, 2, 3, 8, 9, 30, 31, 400, 401, 9999, 10000, math.MaxInt - 1, math.MaxInt}
	d := dice(18)
	number := func() int {
		if d.roll(12) > 0 {
			return d.roll(4)
		}
		return one(&d, numbers...)
	}
	some := func() [][]string {
		l := clone(lines(one(&d, "a", "a/b", "a b/c/c", "", "a/b/c/d")))
		if d.roll(20) == 0 {
			l = append(l, []string{one(&d, noWords...)})
		}
		return l
	}
	right := map[string]int{}
	for range 10000 {
		x := input{n: number(), part: number(), c: api.Cut{Width: 12 + number(), Side: uint8(number())}, day: number()}
		x.r.Text = api.Text{Chapters: []api.Chapter{{Id: number(), Lines: append(some(), []string{"a"})}}}
		for i := range one(&d, 1, 1, 1, 2, 4, 5) {
			x.r.Helpers = append(x.r.Helpers, api.Helper{Id: 5*i + number(), Post: number(), Rate: 1 + number()})
		}
		for i := range one(&d, 0, 1, 1, 1, 2, 3, 9) {
			x.r.Shares = append(x.r.Shares, share(number()+i, number()+i, number()/2, number()))
			x.r.Sheets = append(x.r.Sheets, api.Sheet{Back: true, Lines: some()})
		}
		wantErrors(t, x, api.OK)
		for _, o := range x.all() {
			if o.e == api.OK {
				right[o.call]++
			}
		}
	}
	for call, n := range right {
		if n < 50 {
			t.Error(call, n)
		}
	}
	if len(right) != 11 {
		t.Error(right)
	}
}

// R7: the greatest arguments of all calls.
func TestGreatestArguments(t *testing.T) {
	r := api.Round{Text: numbered(10, 10, 10, 10, 10, 10)}
	for i := range 4 {
		r.Helpers = append(r.Helpers, api.Helper{Id: 9999 - i, Post: 30, Rate: 1})
	}
	for i := range 8 {
		r.Shares = append(r.Shares, share(7*i, 7*i+9, i%4, 400))
		r.Sheets = append(r.Sheets, api.Sheet{Back: true, Lines: slices.Repeat([][]string{slices.Repeat([]string{"abcdefghijkl"}, 10)}, 30)})
	}
	x := input{r: r, n: 59, part: 7, c: api.Cut{Width: 80, Side: api.SideEven}, day: 400}
	for _, o := range x.all() {
		if e := o.e; o.call == "Explain" && e != api.ErrNone || o.call != "Explain" && e != api.OK {
			t.Error(o.call, e)
		}
	}
	helpers, last, e := hand.Assign(r, 400)
	wantList(t, "greatest", helpers, e, 0, 0, 1, 1, 2, 2, 3, 3)
	wantOne(t, "greatest", last, e, 480)
}
