package galley_test

import (
	"math"
	"reflect"
	"slices"
	"testing"

	"postil/api"
	"postil/galley"
)

// spare is a list with more memory behind its end, in which a mark stands.
func spare[T any](l []T, mark T) []T {
	return append(slices.Clone(l), mark, mark)[:len(l)]
}

// sparedInput is an input with which all calls are OK, and have results, whose lists have more memory behind their ends.
func sparedInput() input {
	x := input{g: sample(), breaks: spare([]int{5, 9, 13, 15}, 77), line: 11, block: 2, lines: 9, t: book("the sea is old/old the sea", "sea and sea"), c: api.Cut{Width: 14, Side: api.SideEven}, height: 6}
	x.g.Blocks = spare(x.g.Blocks, api.Block{Word: "mark", Lines: 77})
	for i, c := range x.t.Chapters {
		for n, line := range c.Lines {
			c.Lines[n] = spare(line, "mark")
		}
		x.t.Chapters[i].Lines = spare(c.Lines, []string{"mark"})
	}
	x.t.Chapters = spare(x.t.Chapters, api.Chapter{Id: 77})
	return x
}

// memory is a copy of all that the lists of arguments have, up to what is behind their ends.
func memory(x input) any {
	all := []any{slices.Clone(x.g.Blocks[:cap(x.g.Blocks)]), slices.Clone(x.breaks[:cap(x.breaks)])}
	for _, c := range x.t.Chapters[:cap(x.t.Chapters)] {
		all = append(all, c.Id)
		for _, line := range c.Lines[:cap(c.Lines)] {
			all = append(all, slices.Clone(line[:cap(line)]))
		}
	}
	return all
}

// R3: no argument is written to, nor the memory behind the end of one; and the same arguments have the same results.
func TestArgumentsAreNotWrittenTo(t *testing.T) {
	x := sparedInput()
	before, first := memory(x), x.all()
	if !reflect.DeepEqual(before, memory(x)) {
		t.Errorf("arguments are %v, not %v any more", memory(x), before)
	}
	for i, o := range x.all() {
		if o.e != api.OK || !reflect.DeepEqual(o, first[i]) {
			t.Errorf("%s: %v, then %v", o.call, first[i], o)
		}
		if slices.ContainsFunc(o.results, isZero) {
			t.Errorf("%s: %v", o.call, o.results)
		}
	}
}

// R3: what is written to a result is seen in no argument, and in no other result; also where a block keeps its lines.
func TestResultsShareNoMemory(t *testing.T) {
	more, same := sparedInput(), sparedInput()
	same.lines = 6
	for _, x := range []input{more, same} {
		before, first := memory(x), x.all()
		for _, o := range x.all() {
			for _, result := range o.results {
				switch l := result.(type) {
				case []int:
					fill(l, 66)
				case api.Galley:
					fill(l.Blocks, api.Block{Word: "spoiled", Lines: 66})
				}
			}
		}
		if !reflect.DeepEqual(before, memory(x)) {
			t.Errorf("arguments are %v, not %v any more", memory(x), before)
		}
		if again := x.all(); !reflect.DeepEqual(first, again) {
			t.Errorf("results are %v, not %v any more", again, first)
		}
	}
}

// fill writes to all memory of a list, up to what is behind its end.
func fill[T any](l []T, mark T) {
	l = l[:cap(l)]
	for i := range l {
		l[i] = mark
	}
}

// R3: nothing is remembered of other arguments.
func TestNothingIsRemembered(t *testing.T) {
	d := dice(12)
	x, y := sparedInput(), input{g: d.galley(9), t: d.text(), c: api.Cut{Width: 20, Side: api.SideLeft}, height: 5, lines: 3}
	y.breaks = d.breaks(y.g)
	first, second := x.all(), y.all()
	if !reflect.DeepEqual(x.all(), first) || !reflect.DeepEqual(y.all(), second) {
		t.Error("results are others now")
	}
}

// R4: nil lists and empty ones are the same.
func TestNilAndEmpty(t *testing.T) {
	for _, l := range [][]api.Block{nil, {}} {
		for _, breaks := range [][]int{nil, {}} {
			wantErrors(t, input{g: api.Galley{Height: 4, Blocks: l}, breaks: breaks}, api.ErrGalley, calls...)
		}
	}
	for _, breaks := range [][]int{nil, {}} {
		wantErrors(t, input{g: sample(), breaks: breaks}, api.ErrBreaks, ofBreaks...)
	}
	for _, text := range []api.Text{{}, {Chapters: []api.Chapter{}}, {Chapters: []api.Chapter{{Lines: [][]string{}}}}, {Chapters: []api.Chapter{{Lines: [][]string{{}}}}}} {
		wantErrors(t, input{t: text, c: api.Cut{Width: 12, Side: 1}, height: 4}, api.ErrText, "Set")
	}
	l, e := galley.Torn(galleyOf(4, 3, 1), []int{3, 4})
	wantList(t, "not torn", l, e)
}

// R5 and R7: no call panics, whatever the numbers and texts are, and with an error there is no result.
func TestAnyValues(t *testing.T) {
	numbers := []int{math.MinInt, math.MinInt + 1, math.MinInt32, -2, -1, 0, 1, 2, 3, 4, 5, 20, 21, 30, 31, 40, 41, 600, 601, math.MaxInt32, math.MaxInt - 1, math.MaxInt}
	d := dice(13)
	number := func() int {
		if d.roll(12) > 0 {
			return 1 + d.roll(3)
		}
		return one(&d, numbers...)
	}
	right := map[string]int{}
	for range 10000 {
		x := input{g: d.galley(5), line: number(), block: number() - 1, lines: number(), t: d.text(), c: api.Cut{Width: 11 + number(), Side: uint8(number())}, height: 3 + number()}
		x.breaks = d.breaks(x.g)
		switch d.roll(6) {
		case 0:
			x.g.Height = number()
		case 1:
			x.g.Blocks[d.roll(len(x.g.Blocks))].Lines = number()
		case 2:
			x.g.Blocks[d.roll(len(x.g.Blocks))].Word = one(&d, append(noWords, "sea")...)
		case 3:
			x.breaks[d.roll(len(x.breaks))] = number()
		case 4:
			x.breaks = x.breaks[:d.roll(len(x.breaks)+1)]
		}
		wantErrors(t, x, api.OK)
		for _, o := range x.all() {
			if o.e == api.OK {
				right[o.call]++
			}
		}
	}
	for call, n := range right {
		if n < 1000 {
			t.Error(call, n)
		}
	}
	if len(right) != 11 {
		t.Error(right)
	}
}

// R7: the greatest arguments of all calls.
func TestGreatestArguments(t *testing.T) {
	x := input{g: galleyOf(40, slices.Repeat([]int{20}, 30)...), line: 599, block: 29, lines: 20, t: crowded(30, 19), c: api.Cut{Width: 80, Side: api.SideEven}, height: 40}
	for end := 40; end <= 600; end += 40 {
		x.breaks = append(x.breaks, end)
	}
	wantErrors(t, x, api.OK, append(calls, "Set")...)
	l, e := galley.Break(x.g)
	wantList(t, "break", l, e, x.breaks...)
	proof, e := galley.Proof(x.g)
	wantOne(t, "proof", len(proof), e, 1+30*18)
	wantOne(t, "the last of it", proof[len(proof)-1], e, 0)
	column, row, e := galley.At(x.g, x.breaks, 599)
	wantOne(t, "the last line", [2]int{column, row}, e, [2]int{14, 39})
	ends := endsOf(x.g)
	low := galleyOf(4, slices.Repeat([]int{20}, 30)...)
	n, e := galley.Waste(galleyOf(40, slices.Repeat([]int{20}, 30)...), ends)
	wantOne(t, "the most waste", n, e, counted(40, 0, ends[:len(ends)-1]))
	l, e = galley.Break(low)
	wantOne(t, "the most columns", len(l), e, 150)
}
