package rack_test

import (
	"math"
	"reflect"
	"slices"
	"testing"

	"postil/api"
	"postil/rack"
)

// spare is a list with more memory behind its end, in which a mark stands.
func spare[T any](l []T, mark T) []T {
	return append(slices.Clone(l), mark, mark)[:len(l)]
}

// sparedInput is an input with which all calls are OK, and have results, whose lists have more memory behind their ends.
func sparedInput() input {
	d := append(falling(5), 3, 4, 1)
	plan, _ := rack.Plan(d, 2)
	for k, pass := range plan {
		plan[k] = spare(pass, 77)
	}
	return input{
		d:     spare(d, 77),
		boxes: 2,
		plan:  spare(plan, []int{77}),
		moves: spare([]api.Move{{From: 7, To: 1}, {From: 2, To: 6}}, api.Move{From: 77, To: 77}),
		l:     spare(words("sea", "old", "sea", "and", "a"), slipOf(7, 7, 7, "", "mark", "")),
		by:    api.ByWord,
	}
}

// memory is a copy of all that the lists of arguments have, up to what is behind their ends.
func memory(x input) any {
	var plan []any
	for _, pass := range x.plan[:cap(x.plan)] {
		plan = append(plan, slices.Clone(pass[:cap(pass)]))
	}
	return []any{slices.Clone(x.d[:cap(x.d)]), plan, slices.Clone(x.moves[:cap(x.moves)]), slices.Clone(x.l[:cap(x.l)])}
}

// R3: no argument is written to, nor the memory behind the end of one; and the same arguments have the same results.
func TestArgumentsAreNotWrittenTo(t *testing.T) {
	x := sparedInput()
	before, first := memory(x), x.all()
	if !reflect.DeepEqual(before, memory(x)) {
		t.Errorf("arguments are %v, not %v any more", memory(x), before)
	}
	for i, o := range x.all() {
		if o.e != api.OK || !reflect.DeepEqual(o, first[i]) {
			t.Errorf("%s: %v, then %v", o.call, first[i], o)
		}
		if slices.ContainsFunc(o.results, isZero) {
			t.Errorf("%s: %v", o.call, o.results)
		}
	}
}

// R3: what is written to a result is seen in no argument, and in no other result.
func TestResultsShareNoMemory(t *testing.T) {
	x := sparedInput()
	before, first := memory(x), x.all()
	for i, o := range x.all() {
		switch l := o.results; o.call {
		case "Plan":
			plan := l[0].([][]int)
			for k := range plan {
				for next := k + 1; next < len(plan); next++ {
					if fill(plan[k], 66); !slices.Equal(plan[next], first[i].results[0].([][]int)[next]) {
						t.Errorf("passes %d and %d of a plan share memory", k, next)
					}
				}
			}
			fill(plan, []int{66})
		case "Proof":
			fill(l[0].([][2]int), [2]int{66, 66})
		case "Mend":
			fill(l[0].([]api.Move), api.Move{From: 66, To: 66})
		case "File":
			fill(l[0].([]api.Slip), slipOf(6, 6, 6, "", "spoiled", ""))
		case "Ranks", "Runs", "Sort", "Keep", "Chains", "Moved":
			fill(l[0].([]int), 66)
		}
	}
	if !reflect.DeepEqual(before, memory(x)) {
		t.Errorf("arguments are %v, not %v any more", memory(x), before)
	}
	if again := x.all(); !reflect.DeepEqual(first, again) {
		t.Errorf("results are %v, not %v any more", again, first)
	}
}

// fill writes to all memory of a list, up to what is behind its end.
func fill[T any](l []T, mark T) {
	l = l[:cap(l)]
	for i := range l {
		l[i] = mark
	}
}

// R3: nothing is remembered of other arguments.
func TestNothingIsRemembered(t *testing.T) {
	x, y := sparedInput(), input{d: sample(), boxes: 3, moves: []api.Move{{From: 1, To: 3}}, l: words("b", "a"), by: api.ByOrder}
	first, second := x.all(), y.all()
	if !reflect.DeepEqual(x.all(), first) || !reflect.DeepEqual(y.all(), second) {
		t.Error("results are others now")
	}
}

// R4: nil lists and empty ones are the same.
func TestNilAndEmpty(t *testing.T) {
	calls := []string{"Check", "Ranks", "Runs", "Passes", "Plan", "Sort", "Keep", "Chains", "Mend", "Moved", "File"}
	empty := input{d: []int{}, boxes: 2, plan: [][]int{}, moves: []api.Move{}, l: []api.Slip{}, by: api.ByWord}
	passes := empty
	passes.plan = [][]int{nil, {}}
	for _, x := range []input{{boxes: 2, by: api.ByWord}, empty, passes} {
		wantErrors(t, x, api.OK, calls...)
		wantErrors(t, x, api.ErrNone, "Proof")
		for _, o := range x.all() {
			if slices.ContainsFunc(o.results, func(result any) bool { return !isZero(result) }) {
				t.Errorf("%s: %v", o.call, o.results)
			}
		}
	}
	x, y := input{d: sample(), boxes: 2}, input{d: sample(), boxes: 2, plan: [][]int{}, moves: []api.Move{}}
	wantErrors(t, x, api.OK, "Sort", "Moved")
	if !reflect.DeepEqual(x.all(), y.all()) {
		t.Error("nil lists and empty ones differ")
	}
	// An empty pass is none of a deck with slips, whether it is nil or not.
	for _, pass := range [][]int{nil, {}} {
		wantErrors(t, input{d: sample(), boxes: 2, plan: [][]int{pass}}, api.ErrPlan, "Sort")
	}
}

// R5 and R7: no call panics, whatever the numbers and texts are, and with an error there is no result.
func TestAnyValues(t *testing.T) {
	numbers := []int{math.MinInt, math.MinInt + 1, -1, 0, 1, 2, 3, 19, 20, 21, 59, 60, 61, 999, 1000, math.MaxInt - 1, math.MaxInt}
	d := dice(14)
	number := func() int {
		if d.roll(12) > 0 {
			return d.roll(3)
		}
		return one(&d, numbers...)
	}
	bad := badSlips()
	right := map[string]int{}
	for range 10000 {
		x := input{boxes: 1 + number(), by: uint8(1 + number())}
		for range one(&d, 0, 1, 2, 3, 3, 3, 4, 60, 61) {
			x.d = append(x.d, number())
		}
		for range one(&d, 0, 1, 1, 2, 8, 9) {
			var pass []int
			for range len(x.d) + one(&d, 0, 0, 0, 0, 1) {
				pass = append(pass, d.roll(2))
			}
			for i := range pass {
				if d.roll(30) == 0 {
					pass[i] = number()
				}
			}
			x.plan = append(x.plan, pass)
		}
		for range one(&d, 0, 1, 1, 2, 3, 60, 61) {
			x.moves = append(x.moves, api.Move{From: number(), To: number()})
		}
		x.l = d.slips(4)
		if d.roll(20) == 0 {
			x.l = append(x.l, one(&d, bad...))
		}
		wantErrors(t, x, api.OK)
		for _, o := range x.all() {
			if o.e == api.OK {
				right[o.call]++
			}
		}
	}
	for call, n := range right {
		if n < 50 {
			t.Error(call, n)
		}
	}
	if len(right) != 12 {
		t.Error(right)
	}
}

// R7: the greatest arguments of all calls.
func TestGreatestArguments(t *testing.T) {
	// The most slips, with the greatest ranks, of which as many as can be are kept in the greatest number of ways.
	var d []int
	for i := range 60 {
		d = append(d, 999-59+i^1)
	}
	x := input{
		d:     d,
		boxes: 20,
		plan:  slices.Repeat([][]int{slices.Repeat([]int{19}, 60)}, 8),
		moves: slices.Repeat([]api.Move{{From: 59, To: 59}}, 60),
		l:     slices.Repeat([]api.Slip{slipOf(math.MaxInt, math.MaxInt, math.MaxInt, "", "abcdefghijkl", "")}, 60),
		by:    api.ByAfter,
	}
	wantErrors(t, x, api.OK, "Check", "Ranks", "Runs", "Passes", "Plan", "Sort", "Proof", "Keep", "Chains", "Mend", "Moved", "File")
	keep, e := rack.Keep(d)
	var want []int
	for i := range 30 {
		want = append(want, 2*i)
	}
	wantList(t, "greatest", keep, e, want...)
	moves, e := rack.Mend(d)
	wantOne(t, "greatest", len(moves), e, 30)
}
