package leaf_test

import (
	"math"
	"reflect"
	"slices"
	"strings"
	"testing"

	"postil/api"
	"postil/leaf"
)

// far is numbers outside of everything that is allowed, of either sign.
var far = []int{math.MinInt, math.MinInt32, -1, 10000, math.MaxInt32, math.MaxInt}

// book is a text of chapters with Ids from 7 on, whose lines are parted by strokes.
func book(chapters ...string) api.Text {
	var t api.Text
	for i, s := range chapters {
		c := api.Chapter{Id: 7 + i}
		for _, line := range strings.Split(s, "/") {
			c.Lines = append(c.Lines, strings.Fields(line))
		}
		t.Chapters = append(t.Chapters, c)
	}
	return t
}

// words is the lines of a text as book has them.
func words(t api.Text) string {
	var chapters []string
	for _, c := range t.Chapters {
		var lines []string
		for _, line := range c.Lines {
			lines = append(lines, strings.Join(line, " "))
		}
		chapters = append(chapters, strings.Join(lines, "/"))
	}
	return strings.Join(chapters, "|")
}

// sample is the text of the chapter's examples, sampleCopy its copy.
func sample() api.Text {
	t := book("the sea is old/old the sea", "sea and sea")
	t.Chapters[1].Id = 3
	return t
}

func sampleCopy() api.Copy {
	return api.Copy{Id: 1, Readings: []api.Reading{other(0, 0, 3, "cold"), omit(0, 1, 1), put(1, 0, 3, "salt")}}
}

func place(chapter, line, word int) api.Place {
	return api.Place{Chapter: chapter, Line: line, Word: word}
}

func omit(chapter, line, word int) api.Reading {
	return api.Reading{At: place(chapter, line, word), Kind: api.ReadOmit}
}

func put(chapter, line, word int, s string) api.Reading {
	return api.Reading{At: place(chapter, line, word), Kind: api.ReadPut, Word: s}
}

func other(chapter, line, word int, s string) api.Reading {
	return api.Reading{At: place(chapter, line, word), Kind: api.ReadOther, Word: s}
}

func copyOf(l ...api.Reading) api.Copy { return api.Copy{Id: 1, Readings: l} }

// places is all places of a text, without a call of leaf.
func places(t api.Text) []api.Place {
	var l []api.Place
	for c := range t.Chapters {
		for n := range t.Chapters[c].Lines {
			for w := range t.Chapters[c].Lines[n] {
				l = append(l, place(c, n, w))
			}
		}
	}
	return l
}

func word(t api.Text, p api.Place) string {
	return t.Chapters[p.Chapter].Lines[p.Line][p.Word]
}

// noPlaces is values that are no places of a text.
func noPlaces(t api.Text) []api.Place {
	l := []api.Place{place(len(t.Chapters), 0, 0)}
	for c := range t.Chapters {
		l = append(l, place(c, len(t.Chapters[c].Lines), 0))
		for n, line := range t.Chapters[c].Lines {
			l = append(l, place(c, n, len(line)))
		}
	}
	for _, n := range far {
		l = append(l, place(n, 0, 0), place(0, n, 0), place(0, 0, n), place(n, n, n))
	}
	return l
}

// dice are numbers that look like chance, the same ones in each run.
type dice uint64

// roll is a number below n.
func (d *dice) roll(n int) int {
	*d = *d*6364136223846793005 + 1442695040888963407
	return int(uint64(*d) >> 33 % uint64(n))
}

func (d *dice) line(most int) []string {
	var l []string
	for range 1 + d.roll(most) {
		l = append(l, []string{"a", "b", "c", "ab", "abc"}[d.roll(5)])
	}
	return l
}

// alike is a text with as many chapters and lines as another one.
func (d *dice) alike(t api.Text, most int) api.Text {
	var u api.Text
	for _, c := range t.Chapters {
		x := api.Chapter{Id: c.Id}
		for range c.Lines {
			x.Lines = append(x.Lines, d.line(most))
		}
		u.Chapters = append(u.Chapters, x)
	}
	return u
}

func (d *dice) text(most int) api.Text {
	var t api.Text
	for i := range 1 + d.roll(3) {
		t.Chapters = append(t.Chapters, api.Chapter{Id: 50 - i, Lines: make([][]string, 1+d.roll(3))})
	}
	return d.alike(t, most)
}

// copied is a valid copy of a text.
func (d *dice) copied(t *testing.T, base api.Text) api.Copy {
	t.Helper()
	for {
		c := api.Copy{Id: d.roll(10000)}
		for p := range allEnds(base) {
			c.Readings = append(c.Readings, d.readings(base, p)...)
		}
		if leaf.CheckCopy(base, c) == api.OK {
			return c
		}
	}
}

// readings is some readings at a place, or behind a line.
func (d *dice) readings(base api.Text, p api.Place) []api.Reading {
	var l []api.Reading
	for range d.roll(6) / 4 {
		l = append(l, put(p.Chapter, p.Line, p.Word, "p"))
	}
	if p.Word == len(base.Chapters[p.Chapter].Lines[p.Line]) {
		return l
	}
	switch d.roll(5) {
	case 0:
		l = append(l, omit(p.Chapter, p.Line, p.Word))
	case 1:
		l = append(l, other(p.Chapter, p.Line, p.Word, "x"))
	}
	return l
}

// allEnds yields all places of a text, and what is behind each line.
func allEnds(t api.Text) func(func(api.Place) bool) {
	return func(yield func(api.Place) bool) {
		for c := range t.Chapters {
			for n, line := range t.Chapters[c].Lines {
				for w := range len(line) + 1 {
					if !yield(place(c, n, w)) {
						return
					}
				}
			}
		}
	}
}

// input is arguments for all calls.
type input struct {
	t, u api.Text
	c    api.Copy
	p    api.Place
	n    int
	word string
	l    []api.Copy
}

// outcome is what a call returned: its result, and its error.
type outcome struct {
	call   string
	result any
	e      api.Errno
}

// all is what all calls return.
func (x input) all() []outcome {
	var l []outcome
	add := func(call string, result any, e api.Errno) { l = append(l, outcome{call, result, e}) }
	add("Check", nil, leaf.Check(x.t))
	add("CheckCopy", nil, leaf.CheckCopy(x.t, x.c))
	words, e := leaf.Words(x.t)
	add("Words", words, e)
	at, e := leaf.At(x.t, x.p)
	add("At", at, e)
	number, e := leaf.Number(x.t, x.p)
	add("Number", number, e)
	p, e := leaf.PlaceOf(x.t, x.n)
	add("PlaceOf", p, e)
	of, e := leaf.Places(x.t, x.word)
	add("Places", of, e)
	vocabulary, e := leaf.Vocabulary(x.t)
	add("Vocabulary", vocabulary, e)
	read, e := leaf.Read(x.t, x.c)
	add("Read", read, e)
	stands, e := leaf.Stands(x.t, x.c, x.p)
	add("Stands", stands, e)
	found, e := leaf.Find(x.t, x.u, x.n)
	add("Find", found, e)
	apart, e := leaf.Apart(x.t, x.u)
	add("Apart", apart, e)
	doubt, e := leaf.Doubt(x.t, x.l)
	add("Doubt", doubt, e)
	return l
}

// wantErrors checks the errors of calls that are named, and that no call with an error has a result.
func wantErrors(t *testing.T, x input, want map[string]api.Errno) {
	t.Helper()
	for _, o := range x.all() {
		if e, ok := want[o.call]; ok && o.e != e {
			t.Errorf("%s of %+v: %v, not %v", o.call, x, o.e, e)
		}
		if o.e != api.OK && !isZero(o.result) {
			t.Errorf("%s of %+v: %v, with the result %v", o.call, x, o.e, o.result)
		}
	}
}

func isZero(x any) bool {
	v := reflect.ValueOf(x)
	return x == nil || v.IsZero() || v.Kind() == reflect.Slice && v.Len() == 0
}

// same tells whether two lists are the same, and both errors are OK.
func same[T comparable](a, b []T, errors ...api.Errno) bool {
	return slices.Equal(a, b) && !slices.ContainsFunc(errors, func(e api.Errno) bool { return e != api.OK })
}
