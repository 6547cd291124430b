package leaf_test

import (
	"math"
	"reflect"
	"slices"
	"testing"

	"postil/api"
	"postil/leaf"
)

// spare is a list with more memory behind its end, in which a mark stands.
func spare[T any](l []T, mark T) []T {
	l = append(slices.Clip(slices.Clone(l)), mark, mark, mark)
	return l[:len(l)-3]
}

// spared is a text whose lists have more memory behind their ends.
func spared(t api.Text) api.Text {
	var u api.Text
	for _, c := range t.Chapters {
		x := api.Chapter{Id: c.Id}
		for _, line := range c.Lines {
			x.Lines = append(x.Lines, spare(line, "mark"))
		}
		x.Lines = spare(x.Lines, []string{"mark"})
		u.Chapters = append(u.Chapters, x)
	}
	u.Chapters = spare(u.Chapters, api.Chapter{Id: 77})
	return u
}

// memory is all that lists have, up to what is behind their ends.
func memory(x input) any {
	text := func(t api.Text) (l []any) {
		for _, c := range t.Chapters[:cap(t.Chapters)] {
			l = append(l, c.Id)
			for _, line := range c.Lines[:cap(c.Lines)] {
				l = append(l, slices.Clone(line[:cap(line)]))
			}
		}
		return l
	}
	readings := [][]api.Reading{slices.Clone(x.c.Readings[:cap(x.c.Readings)])}
	var ids []int
	for _, c := range x.l[:cap(x.l)] {
		ids = append(ids, c.Id)
		readings = append(readings, slices.Clone(c.Readings[:cap(c.Readings)]))
	}
	return []any{text(x.t), text(x.u), readings, ids}
}

// sparedInputs is inputs whose lists have more memory behind their ends: with a copy that has readings in all lines, and with one that has none.
func sparedInputs() []input {
	return []input{sparedInput(sampleCopy()), sparedInput(copyOf())}
}

func sparedInput(c api.Copy) input {
	c.Readings = spare(c.Readings, omit(5, 5, 5))
	u, _ := leaf.Read(sample(), c)
	two := copyOf(spare([]api.Reading{put(0, 0, 0, "x"), omit(0, 0, 0)}, omit(5, 5, 5))...)
	return input{t: spared(sample()), u: spared(u), c: c, p: place(0, 1, 2), n: 3, word: "sea", l: spare([]api.Copy{c, two}, api.Copy{Id: 77})}
}

// R3: no argument is written to, nor the memory behind the end of one; and the same arguments have the same results.
func TestArgumentsAreNotWrittenTo(t *testing.T) {
	for _, x := range sparedInputs() {
		before := memory(x)
		first := x.all()
		if !reflect.DeepEqual(before, memory(x)) {
			t.Errorf("arguments are %v, not %v any more", memory(x), before)
		}
		for i, o := range x.all() {
			if o.e != api.OK || !reflect.DeepEqual(o, first[i]) {
				t.Errorf("%s: %v, then %v", o.call, first[i], o)
			}
		}
	}
}

// R3: what is written to a result is seen in no argument, and in no other result.
func TestResultsShareNoMemory(t *testing.T) {
	for _, x := range sparedInputs() {
		before, first := memory(x), x.all()
		for _, o := range x.all() {
			spoil(o.result)
		}
		if !reflect.DeepEqual(before, memory(x)) {
			t.Errorf("arguments are %v, not %v any more", memory(x), before)
		}
		if again := x.all(); !reflect.DeepEqual(first, again) {
			t.Errorf("results are %v, not %v any more", again, first)
		}
	}
}

// spoil writes to all memory of a result, up to what is behind the ends of its lists.
func spoil(result any) {
	switch l := result.(type) {
	case api.Text:
		for _, c := range l.Chapters {
			for _, line := range c.Lines {
				fill(line, "spoiled")
			}
			fill(c.Lines, nil)
		}
		fill(l.Chapters, api.Chapter{Id: 66})
	case api.Copy:
		fill(l.Readings, omit(6, 6, 6))
	case []api.Place:
		fill(l, place(6, 6, 6))
	case []string:
		fill(l, "spoiled")
	}
}

func fill[T any](l []T, x T) {
	l = l[:cap(l)]
	for i := range l {
		l[i] = x
	}
}

// R3: no list of a result shares memory with another one of it.
func TestLinesOfACopyShareNoMemory(t *testing.T) {
	read, _ := leaf.Read(sample(), sampleCopy())
	want := words(read)
	for i, c := range read.Chapters {
		_ = append(c.Lines, []string{"spoiled"})
		for n := range c.Lines {
			_ = append(read.Chapters[i].Lines[n], "spoiled")
		}
	}
	if words(read) != want {
		t.Errorf("%s, not %s", words(read), want)
	}
}

// R4: nil lists and empty ones are the same.
func TestNilAndEmpty(t *testing.T) {
	x := input{t: sample(), u: sample(), word: "sea"}
	y := input{t: sample(), u: sample(), word: "sea", c: api.Copy{Readings: []api.Reading{}}, l: []api.Copy{}}
	if !reflect.DeepEqual(x.all(), y.all()) {
		t.Errorf("%v, not %v", y.all(), x.all())
	}
	for _, u := range []api.Text{{Chapters: []api.Chapter{{Lines: nil}}}, {Chapters: []api.Chapter{{Lines: [][]string{}}}}, {Chapters: []api.Chapter{{Lines: [][]string{nil}}}}, {Chapters: []api.Chapter{{Lines: [][]string{{}}}}}} {
		if e := leaf.Check(u); e != api.ErrText {
			t.Error(u, e)
		}
	}
}

// R5 and R7: no call panics, whatever the numbers are, and with an error there is no result.
func TestAnyNumbers(t *testing.T) {
	numbers := []int{math.MinInt, math.MinInt + 1, -1, 0, 1, 9, 10, 10000, math.MaxInt - 1, math.MaxInt}
	d := dice(6)
	number := func() int { return numbers[d.roll(len(numbers))] }
	for range 5000 {
		x := input{t: sample(), u: sample(), p: place(number(), number(), number()), n: number()}
		x.c = api.Copy{Id: number() & 1}
		for range d.roll(3) {
			x.c.Readings = append(x.c.Readings, api.Reading{At: place(number()&3, number()&3, number()), Kind: uint8(d.roll(5)), Word: "x"})
		}
		x.l = []api.Copy{x.c}
		if d.roll(4) == 0 {
			x.u.Chapters[d.roll(2)].Id = number()
		}
		wantErrors(t, x, nil)
	}
}

// R6: a copy that no call would return is valid.
func TestCopiesThatAreNotTheFewest(t *testing.T) {
	base := book("a b")
	c := copyOf(put(0, 0, 0, "a"), omit(0, 0, 0), put(0, 0, 1, "b"), omit(0, 0, 1))
	read, e := leaf.Read(base, c)
	l, f := leaf.Doubt(base, []api.Copy{c})
	if words(read) != "a b" || e != api.OK || !same(l, places(base), f) {
		t.Error(read, e, l, f)
	}
}
