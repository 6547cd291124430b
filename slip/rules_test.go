package slip_test

import (
	"math"
	"reflect"
	"slices"
	"testing"

	"postil/api"
	"postil/slip"
)

// spare is a list with more memory behind its end, in which a mark stands.
func spare[T any](l []T, mark T) []T {
	return append(slices.Clone(l), mark, mark)[:len(l)]
}

func sparedText(t api.Text) api.Text {
	for i, c := range t.Chapters {
		for n, line := range c.Lines {
			c.Lines[n] = spare(line, "mark")
		}
		t.Chapters[i].Lines = spare(c.Lines, []string{"mark"})
	}
	t.Chapters = spare(t.Chapters, api.Chapter{Id: 77})
	return t
}

// sparedInput is an input with which all calls are OK, and whose lists have more memory behind their ends.
func sparedInput() input {
	mark := slipOf(place(5, 5, 5), "mark", "mark", "mark")
	s := slipOf(place(0, 1, 2), "the", "sea", "")
	y := sampleCopy()
	y.Readings = spare(y.Readings, reading(api.ReadPut, 5, 5, 5, "mark"))
	list := []api.Slip{s, slipOf(place(1, 0, 0), "", "sea", "and sea"), s, s}
	return input{t: sparedText(sample()), c: cut(14, api.SideEven), p: place(0, 0, 2), to: place(1, 0, 1), s: s, other: mark, l: spare(list, mark), y: y}
}

// memory is a copy of all that the lists of arguments have, up to what is behind their ends.
func memory(x input) any {
	var text []any
	for _, c := range x.t.Chapters[:cap(x.t.Chapters)] {
		text = append(text, c.Id)
		for _, line := range c.Lines[:cap(c.Lines)] {
			text = append(text, slices.Clone(line[:cap(line)]))
		}
	}
	return []any{text, slices.Clone(x.l[:cap(x.l)]), slices.Clone(x.y.Readings[:cap(x.y.Readings)])}
}

// R3: no argument is written to, nor the memory behind the end of one; and the same arguments have the same results.
func TestArgumentsAreNotWrittenTo(t *testing.T) {
	x := sparedInput()
	before, first := memory(x), x.all()
	if !reflect.DeepEqual(before, memory(x)) {
		t.Errorf("arguments are %v, not %v any more", memory(x), before)
	}
	for i, o := range x.all() {
		if o.e != api.OK || !reflect.DeepEqual(o, first[i]) {
			t.Errorf("%s: %v, then %v", o.call, first[i], o)
		}
	}
}

// R3: what is written to a result is seen in no argument, and in no other result.
func TestResultsShareNoMemory(t *testing.T) {
	x := sparedInput()
	before, first := memory(x), x.all()
	for _, o := range x.all() {
		switch l := o.result.(type) {
		case []api.Slip:
			fill(l, slipOf(place(6, 6, 6), "", "spoiled", ""))
		case []api.Place:
			fill(l, place(6, 6, 6))
		case []int:
			fill(l, 6)
		}
	}
	if !reflect.DeepEqual(before, memory(x)) {
		t.Errorf("arguments are %v, not %v any more", memory(x), before)
	}
	if again := x.all(); !reflect.DeepEqual(first, again) {
		t.Errorf("results are %v, not %v any more", again, first)
	}
}

// fill writes to all memory of a list, up to what is behind its end.
func fill[T any](l []T, mark T) {
	l = l[:cap(l)]
	for i := range l {
		l[i] = mark
	}
}

// R3: nothing is remembered of another text, or by another cut.
func TestNothingIsRemembered(t *testing.T) {
	x, y := sparedInput(), sparedInput()
	y.t, y.c = book("is sea the old", "old sea/the sea"), cut(20, api.SideLeft)
	first, second := x.all(), y.all()
	if !reflect.DeepEqual(x.all(), first) || !reflect.DeepEqual(y.all(), second) {
		t.Error("results are others now")
	}
}

// R4: nil lists and empty ones are the same.
func TestNilAndEmpty(t *testing.T) {
	x := sparedInput()
	x.l, x.y.Readings = nil, nil
	y := x
	y.l, y.y.Readings = []api.Slip{}, []api.Reading{}
	for i, o := range x.all() {
		other := y.all()[i]
		if o.e != api.OK || other.e != api.OK || !reflect.DeepEqual(o, other) && !(isZero(o.result) && isZero(other.result)) {
			t.Errorf("%v, not %v", other, o)
		}
	}
	for _, u := range []api.Text{{Chapters: []api.Chapter{}}, {Chapters: []api.Chapter{{Lines: nil}}}, {Chapters: []api.Chapter{{Lines: [][]string{nil}}}}, {Chapters: []api.Chapter{{Lines: [][]string{{}}}}}} {
		x.t = u
		wantErrors(t, x, errorsOf(api.ErrText, "Make", "All", "Part", "Wrong", "Where", "Missing", "Moved"))
	}
}

// R5 and R7: no call panics, whatever the numbers and texts are, and with an error there is no result.
func TestAnyValues(t *testing.T) {
	numbers := []int{math.MinInt, math.MinInt + 1, -1, 0, 1, 2, 3, 11, 12, 80, 81, math.MaxInt - 1, math.MaxInt}
	good, bad := []string{"", "a", "the", "sea", "is", "old", "the sea", "is old"}, badSides()
	d := dice(12)
	number := func() int {
		if d.roll(3) > 0 {
			return d.roll(3)
		}
		return numbers[d.roll(len(numbers))]
	}
	text := func() string {
		if d.roll(5) > 0 {
			return good[d.roll(len(good))]
		}
		return bad[d.roll(len(bad))]
	}
	right := map[string]int{}
	for range 5000 {
		x := input{t: sample(), c: cut(12+number(), uint8(number())), p: place(number(), number(), number()), to: place(number(), number(), number())}
		x.s = slipOf(place(number(), number(), number()), text(), text(), text())
		x.other = slipOf(x.p, text(), "sea", "")
		x.l = []api.Slip{x.other, x.s, x.other}[:d.roll(4)]
		x.y = copyOf(api.Reading{At: x.to, Kind: uint8(number()), Word: text()})
		wantErrors(t, x, nil)
		for _, o := range x.all() {
			if o.e == api.OK {
				right[o.call]++
			}
		}
	}
	for call, n := range right {
		if n < 10 {
			t.Error(call, n)
		}
	}
	if len(right) != 10 {
		t.Error(right)
	}
}

// R7: the greatest arguments of all calls.
func TestGreatestArguments(t *testing.T) {
	word := "abcdefghijkl"
	line := slices.Repeat([]string{word}, 10)
	var base api.Text
	for i := range 6 {
		base.Chapters = append(base.Chapters, api.Chapter{Id: i, Lines: slices.Repeat([][]string{line}, 10)})
	}
	side := word + " " + word + " " + word + " " + word + " " + word + " " + word + " " + "ab"
	s := slipOf(place(5, 9, 9), side, word, side)
	x := input{t: base, c: cut(80, api.SideEven), to: place(5, 9, 9), s: s, other: s, l: slices.Repeat([]api.Slip{s}, 700)}
	for _, o := range x.all() {
		if o.e != api.OK {
			t.Error(o.call, o.e)
		}
	}
	missing, e := slip.Missing(x.t, x.c, x.l)
	wantList(t, "missing", missing, e, places(base)...)
}
