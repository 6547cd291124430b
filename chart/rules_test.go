package chart_test

import (
	"math"
	"reflect"
	"slices"
	"testing"

	"postil/api"
)

// spare is a list with more memory behind its end, in which a mark stands.
func spare[T any](l []T, mark T) []T {
	return append(slices.Clone(l), mark, mark)[:len(l)]
}

func sparedEdition(e api.Edition) api.Edition {
	return api.Edition{Id: e.Id, Stretches: spare(e.Stretches, stretch(7, 7, 7, 7, 7))}
}

func sparedText(t api.Text) api.Text {
	for i, c := range t.Chapters {
		for n, line := range c.Lines {
			c.Lines[n] = spare(line, "mark")
		}
		t.Chapters[i].Lines = spare(c.Lines, []string{"mark"})
	}
	t.Chapters = spare(t.Chapters, api.Chapter{Id: 77})
	return t
}

// memory is a copy of all that the lists of arguments have, up to what is behind their ends.
func memory(x input) any {
	var text []any
	for _, c := range x.t.Chapters[:cap(x.t.Chapters)] {
		text = append(text, c.Id)
		for _, line := range c.Lines[:cap(c.Lines)] {
			text = append(text, slices.Clone(line[:cap(line)]))
		}
	}
	return []any{text, slices.Clone(x.e.Stretches[:cap(x.e.Stretches)]), slices.Clone(x.f.Stretches[:cap(x.f.Stretches)])}
}

// sparedInputs is inputs with which all calls but Clash are OK, and whose lists have more memory behind their ends: editions that are plain, and others, whose stretches are not in order.
func sparedInputs() []input {
	x := input{t: sparedText(sample()), e: sparedEdition(six()), f: sparedEdition(five()), p: place(0, 1, 2), r: ref(7, 2, 3), chapter: 7, line: 2, to: 9}
	y, z := x, x
	y.e = sparedEdition(edition(6, stretch(1, 0, 1, 3, 1), stretch(0, 1, 2, 7, 2), stretch(0, 0, 1, 7, 1)))
	z.e, z.f, z.line, z.p, z.r = sparedEdition(five()), sparedEdition(six()), 5, place(0, 1, 0), ref(2, 5, 1)
	z.chapter = 2
	return []input{x, y, z}
}

// R3: no argument is written to, nor the memory behind the end of one; and the same arguments have the same results.
func TestArgumentsAreNotWrittenTo(t *testing.T) {
	for _, x := range sparedInputs() {
		before := memory(x)
		first := x.all()
		if !reflect.DeepEqual(before, memory(x)) {
			t.Errorf("arguments are %v, not %v any more", memory(x), before)
		}
		for i, o := range x.all() {
			if (o.err == api.OK) == (o.call == "Clash") || !reflect.DeepEqual(o, first[i]) {
				t.Errorf("%s: %v, then %v", o.call, first[i], o)
			}
		}
	}
}

// R3: what is written to a result is seen in no argument, and in no other result.
func TestResultsShareNoMemory(t *testing.T) {
	for _, x := range sparedInputs() {
		before, first := memory(x), x.all()
		for _, o := range x.all() {
			spoil(o.result)
		}
		if !reflect.DeepEqual(before, memory(x)) {
			t.Errorf("arguments are %v, not %v any more", memory(x), before)
		}
		if again := x.all(); !reflect.DeepEqual(first, again) {
			t.Errorf("results are %v, not %v any more", again, first)
		}
	}
}

// spoil writes to all memory of a result, up to what is behind the ends of its lists.
func spoil(result any) {
	switch l := result.(type) {
	case api.Edition:
		fill(l.Stretches, stretch(6, 6, 6, 6, 6))
	case []api.Place:
		fill(l, place(6, 6, 6))
	case []api.Pass:
		fill(l, pass(6, 6, 6, 6, 6))
	}
}

func fill[T any](l []T, mark T) {
	l = l[:cap(l)]
	for i := range l {
		l[i] = mark
	}
}

// R4: nil lists and empty ones are the same.
func TestNilAndEmpty(t *testing.T) {
	x := input{t: sample(), p: place(0, 0, 0), r: ref(1, 1, 1), chapter: 1, line: 1, to: 2}
	y := x
	y.e.Stretches, y.f.Stretches = []api.Stretch{}, []api.Stretch{}
	want := map[string]api.Errno{
		"Check": api.OK, "Clash": api.ErrNone, "Gaps": api.OK, "Refer": api.ErrNone, "Lead": api.ErrNone, "Near": api.ErrNone,
		"Close": api.ErrNone, "Plain": api.OK, "Cross": api.OK, "Turn": api.ErrNone, "Split": api.ErrNone, "Join": api.ErrNone,
	}
	wantErrors(t, x, want)
	wantErrors(t, y, want)
	for i, o := range x.all() {
		if other := y.all()[i]; o.call != "Gaps" && !(isZero(o.result) && isZero(other.result)) || o.call == "Gaps" && !reflect.DeepEqual(o, other) {
			t.Errorf("%v, not %v", other, o)
		}
	}
}

// R5 and R7: no call panics, whatever the numbers are, and with an error there is no result.
func TestAnyNumbers(t *testing.T) {
	numbers := []int{math.MinInt, math.MinInt + 1, -1, 0, 1, 2, 3, 998, 999, 1000, math.MaxInt - 1, math.MaxInt}
	d := dice(10)
	valid := 0
	for range 20000 {
		number := func() int {
			if d.roll(3) > 0 {
				return d.roll(4)
			}
			return numbers[d.roll(len(numbers))]
		}
		x := input{t: sample(), p: place(number(), number(), number()), r: ref(number(), number(), number()), chapter: number(), line: number(), to: number()}
		for range d.roll(3) {
			x.e.Stretches = append(x.e.Stretches, stretch(number()&1, number(), number(), number(), number()))
			x.f.Stretches = append(x.f.Stretches, stretch(number(), number(), number(), number(), number()))
		}
		wantErrors(t, x, nil)
		if len(x.e.Stretches) > 0 && x.all()[0].err == api.OK {
			valid++
		}
	}
	if valid < 100 {
		t.Error(valid, "editions are valid")
	}
}
