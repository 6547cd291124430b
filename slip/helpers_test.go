package slip_test

import (
	"math"
	"reflect"
	"slices"
	"strings"
	"testing"

	"postil/api"
	"postil/leaf"
	"postil/slip"
)

// far is numbers outside of everything that is allowed, of either sign.
var far = []int{math.MinInt, math.MinInt + 1, math.MinInt32, -1, 10000, math.MaxInt32, math.MaxInt - 1, math.MaxInt}

// allSides is all sides that a cut may have.
var allSides = []uint8{api.SideLeft, api.SideRight, api.SideEven}

// book is a text of chapters with Ids from 7 down, whose lines are parted by strokes.
func book(chapters ...string) api.Text {
	var t api.Text
	for i, s := range chapters {
		c := api.Chapter{Id: 7 - i}
		for line := range strings.SplitSeq(s, "/") {
			c.Lines = append(c.Lines, strings.Fields(line))
		}
		t.Chapters = append(t.Chapters, c)
	}
	return t
}

// sample is the text of the chapter's examples, sampleCopy layer 1's copy of it.
func sample() api.Text {
	t := book("the sea is old/old the sea", "sea and sea")
	t.Chapters[1].Id = 3
	return t
}

func sampleCopy() api.Copy {
	return copyOf(reading(api.ReadOther, 0, 0, 3, "cold"), reading(api.ReadOmit, 0, 1, 1, ""), reading(api.ReadPut, 1, 0, 3, "salt"))
}

func place(chapter, line, word int) api.Place {
	return api.Place{Chapter: chapter, Line: line, Word: word}
}

func cut(width int, side uint8) api.Cut { return api.Cut{Width: width, Side: side} }

func slipOf(at api.Place, before, word, after string) api.Slip {
	return api.Slip{At: at, Word: word, Before: before, After: after}
}

func reading(kind uint8, chapter, line, word int, s string) api.Reading {
	return api.Reading{At: place(chapter, line, word), Kind: kind, Word: s}
}

func copyOf(l ...api.Reading) api.Copy { return api.Copy{Id: 1, Readings: l} }

// places is all places of a text, in order.
func places(t api.Text) []api.Place {
	var l []api.Place
	for c, chapter := range t.Chapters {
		for n, line := range chapter.Lines {
			for w := range line {
				l = append(l, place(c, n, w))
			}
		}
	}
	return l
}

// noPlaces is values that are no places of a text.
func noPlaces(t api.Text) []api.Place {
	l := []api.Place{place(len(t.Chapters), 0, 0)}
	for c, chapter := range t.Chapters {
		l = append(l, place(c, len(chapter.Lines), 0))
		for n, line := range chapter.Lines {
			l = append(l, place(c, n, len(line)))
		}
	}
	for _, n := range far {
		l = append(l, place(n, 0, 0), place(0, n, 0), place(0, 0, n), place(n, n, n))
	}
	return l
}

// around is the words of the chapter of a place that are before it, its own one, and those after it.
func around(t api.Text, p api.Place) (before []string, word string, after []string) {
	lines := t.Chapters[p.Chapter].Lines
	line := lines[p.Line]
	before = slices.Concat(slices.Concat(lines[:p.Line]...), line[:p.Word])
	after = slices.Concat(line[p.Word+1:], slices.Concat(lines[p.Line+1:]...))
	return before, line[p.Word], after
}

// fits is a context that fits, and by how many words its sides differ.
type fits struct {
	slip   api.Slip
	length int
	uneven int
}

// fitting is all contexts of a place that fit, from those that begin first on, each one tried.
func fitting(t api.Text, width int, p api.Place) []fits {
	before, word, after := around(t, p)
	var l []fits
	for i := range len(before) + 1 {
		for j := range len(after) + 1 {
			s := slipOf(p, strings.Join(before[i:], " "), word, strings.Join(after[:j], " "))
			if n := length(s); n <= width {
				l = append(l, fits{s, n, max(len(before)-i-j, j+i-len(before))})
			}
		}
	}
	return l
}

// length is how long the context of a slip is.
func length(s api.Slip) int {
	return len(strings.Join(strings.Fields(s.Before+" "+s.Word+" "+s.After), " "))
}

// best is the slip of a place, found by trying all contexts.
func best(t api.Text, c api.Cut, p api.Place) api.Slip {
	l := fitting(t, c.Width, p)
	longest := slices.MaxFunc(l, func(a, b fits) int { return a.length - b.length }).length
	l = slices.DeleteFunc(l, func(x fits) bool { return x.length < longest })
	if c.Side == api.SideEven {
		even := slices.MinFunc(l, func(a, b fits) int { return a.uneven - b.uneven }).uneven
		l = slices.DeleteFunc(l, func(x fits) bool { return x.uneven > even })
	}
	if c.Side == api.SideLeft {
		return l[0].slip
	}
	return l[len(l)-1].slip
}

// bests is the slips of all places of a text, found by trying all contexts.
func bests(t api.Text, c api.Cut) []api.Slip {
	var l []api.Slip
	for _, p := range places(t) {
		l = append(l, best(t, c, p))
	}
	return l
}

// suits tells whether a slip has the words that are around a place.
func suits(t api.Text, s api.Slip, p api.Place) bool {
	before, word, after := around(t, p)
	left, right := strings.Join(before, " "), strings.Join(after, " ")
	return s.Word == word && strings.HasSuffix(" "+left, joint(s.Before, "")) && strings.HasPrefix(right+" ", joint("", s.After))
}

// joint is one of two sides, with a space outside of it if there is anything.
func joint(before, after string) string {
	switch {
	case before != "":
		return " " + before
	case after != "":
		return after + " "
	}
	return ""
}

// suiting is all places that a slip suits, in order.
func suiting(t api.Text, s api.Slip) []api.Place {
	return slices.DeleteFunc(places(t), func(p api.Place) bool { return !suits(t, s, p) })
}

// dice are numbers that look like chance, the same ones in each run.
type dice uint64

// roll is a number below n.
func (d *dice) roll(n int) int {
	*d = *d*6364136223846793005 + 1442695040888963407
	return int(uint64(*d) >> 33 % uint64(n))
}

// text is a text whose lines have up to so many words.
func (d *dice) text(most int) api.Text {
	var chapters []string
	for range 1 + d.roll(3) {
		var lines []string
		for range 1 + d.roll(4) {
			lines = append(lines, d.line(1+d.roll(most)))
		}
		chapters = append(chapters, strings.Join(lines, "/"))
	}
	return book(chapters...)
}

func (d *dice) line(words int) string {
	var l []string
	for range words {
		l = append(l, []string{"a", "b", "ab", "abc", "seas", "abcdefghijkl"}[min(d.roll(6), d.roll(6))])
	}
	return strings.Join(l, " ")
}

func (d *dice) cut() api.Cut {
	return cut(api.MinWidth+min(d.roll(69), d.roll(69)), allSides[d.roll(3)])
}

// copied is a valid copy of a text.
func (d *dice) copied(t *testing.T, base api.Text) api.Copy {
	t.Helper()
	for {
		var c api.Copy
		for _, p := range places(base) {
			c.Readings = append(c.Readings, d.readings(base, p)...)
		}
		if leaf.CheckCopy(base, c) == api.OK {
			return c
		}
	}
}

// readings is some readings at a place, and behind it if it is the last one of its line.
func (d *dice) readings(base api.Text, p api.Place) []api.Reading {
	var l []api.Reading
	for range d.roll(6) / 4 {
		l = append(l, reading(api.ReadPut, p.Chapter, p.Line, p.Word, "p"))
	}
	switch d.roll(7) {
	case 0:
		l = append(l, reading(api.ReadOmit, p.Chapter, p.Line, p.Word, ""))
	case 1:
		l = append(l, reading(api.ReadOther, p.Chapter, p.Line, p.Word, "x"))
	}
	if p.Word+1 == len(base.Chapters[p.Chapter].Lines[p.Line]) && d.roll(4) == 0 {
		l = append(l, reading(api.ReadPut, p.Chapter, p.Line, p.Word+1, "p"))
	}
	return l
}

// input is arguments for all calls; Part's are p and to, Wrong's and Where's s, and Order's s and other.
type input struct {
	t        api.Text
	c        api.Cut
	p, to    api.Place
	s, other api.Slip
	l        []api.Slip
	y        api.Copy
}

// outcome is what a call returned: its result, and its error.
type outcome struct {
	call   string
	result any
	e      api.Errno
}

// all is what all calls return.
func (x input) all() []outcome {
	var l []outcome
	add := func(call string, result any, e api.Errno) { l = append(l, outcome{call, result, e}) }
	add("Check", nil, slip.Check(x.c))
	made, e := slip.Make(x.t, x.c, x.p)
	add("Make", made, e)
	all, e := slip.All(x.t, x.c)
	add("All", all, e)
	part, e := slip.Part(x.t, x.c, x.p, x.to)
	add("Part", part, e)
	wrong, e := slip.Wrong(x.t, x.c, x.s)
	add("Wrong", wrong, e)
	where, e := slip.Where(x.t, x.s)
	add("Where", where, e)
	missing, e := slip.Missing(x.t, x.c, x.l)
	add("Missing", missing, e)
	twice, e := slip.Twice(x.l)
	add("Twice", twice, e)
	order, e := slip.Order(x.s, x.other)
	add("Order", order, e)
	moved, e := slip.Moved(x.t, x.y, x.p)
	add("Moved", moved, e)
	return l
}

// errorsOf is the same error for several calls.
func errorsOf(e api.Errno, calls ...string) map[string]api.Errno {
	l := map[string]api.Errno{}
	for _, call := range calls {
		l[call] = e
	}
	return l
}

// wantErrors checks the errors of calls that are named, and that no call with an error has a result.
func wantErrors(t *testing.T, x input, want map[string]api.Errno) {
	t.Helper()
	for _, o := range x.all() {
		if e, ok := want[o.call]; ok && o.e != e {
			t.Errorf("%s of %+v: %v, not %v", o.call, x, o.e, e)
		}
		if o.e != api.OK && !isZero(o.result) {
			t.Errorf("%s of %+v: %v, with the result %v", o.call, x, o.e, o.result)
		}
	}
}

func isZero(x any) bool {
	v := reflect.ValueOf(x)
	return x == nil || v.IsZero() || v.Kind() == reflect.Slice && v.Len() == 0
}

// wantList checks a list, and that its error is OK.
func wantList[T comparable](t *testing.T, what any, l []T, e api.Errno, want ...T) {
	t.Helper()
	if !slices.Equal(l, want) || e != api.OK {
		t.Errorf("%v: %v, %v, not %v", what, l, e, want)
	}
}

// wantOne checks a result that is no list, and that its error is OK.
func wantOne[T comparable](t *testing.T, what any, x T, e api.Errno, want T) {
	t.Helper()
	wantList(t, what, []T{x}, e, want)
}
