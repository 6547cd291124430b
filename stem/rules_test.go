package stem_test

import (
	"math"
	"reflect"
	"slices"
	"testing"

	"postil/api"
	"postil/stem"
)

// spare is a list with more memory behind its end, in which a mark stands.
func spare[T any](l []T, mark T) []T {
	return append(slices.Clone(l), mark, mark)[:len(l)]
}

func sparedText(t api.Text) api.Text {
	for i, c := range t.Chapters {
		for n, line := range c.Lines {
			c.Lines[n] = spare(line, "mark")
		}
		t.Chapters[i].Lines = spare(c.Lines, []string{"mark"})
	}
	t.Chapters = spare(t.Chapters, api.Chapter{Id: 77})
	return t
}

// sparedInput is an input with which all calls are OK, whose lists have more memory behind their ends, and whose decisions are not in order.
func sparedInput() input {
	x := with(sampleLexicon(), void(9, 1), form(4, "sea", head("see", api.MarkVerb)), void(10, 9))
	slices.Reverse(x.Decisions)
	x.Rules = spare(x.Rules, rule("mark", "mark", 77))
	x.Decisions = spare(x.Decisions, form(77, "mark", head("mark", 77)))
	return input{t: sparedText(sample()), x: x, word: "seas", p: place(0, 1, 0), h: head("see", api.MarkVerb), d: form(7, "sea", head("tide", 0))}
}

// memory is a copy of all that the lists of arguments have, up to what is behind their ends.
func memory(x input) any {
	var text []any
	for _, c := range x.t.Chapters[:cap(x.t.Chapters)] {
		text = append(text, c.Id)
		for _, line := range c.Lines[:cap(c.Lines)] {
			text = append(text, slices.Clone(line[:cap(line)]))
		}
	}
	return []any{text, slices.Clone(x.x.Rules[:cap(x.x.Rules)]), slices.Clone(x.x.Decisions[:cap(x.x.Decisions)])}
}

// R3: no argument is written to, nor the memory behind the end of one; and the same arguments have the same results.
func TestArgumentsAreNotWrittenTo(t *testing.T) {
	x := sparedInput()
	before, first := memory(x), x.all()
	if !reflect.DeepEqual(before, memory(x)) {
		t.Errorf("arguments are %v, not %v any more", memory(x), before)
	}
	for i, o := range x.all() {
		if o.e != api.OK || !reflect.DeepEqual(o, first[i]) {
			t.Errorf("%s: %v, then %v", o.call, first[i], o)
		}
	}
}

// R3: what is written to a result is seen in no argument, and in no other result.
func TestResultsShareNoMemory(t *testing.T) {
	x := sparedInput()
	before, first := memory(x), x.all()
	for _, o := range x.all() {
		switch l := o.result.(type) {
		case []api.Place:
			fill(l, place(6, 6, 6))
		case []api.Head:
			fill(l, head("spoiled", 6))
		case []string:
			fill(l, "spoiled")
		case []int:
			fill(l, 6)
		case api.Lexicon:
			fill(l.Rules, rule("spoiled", "", 6))
			fill(l.Decisions, void(6, 6))
		}
	}
	if !reflect.DeepEqual(before, memory(x)) {
		t.Errorf("arguments are %v, not %v any more", memory(x), before)
	}
	if again := x.all(); !reflect.DeepEqual(first, again) {
		t.Errorf("results are %v, not %v any more", again, first)
	}
}

// fill writes to all memory of a list, up to what is behind its end.
func fill[T any](l []T, mark T) {
	l = l[:cap(l)]
	for i := range l {
		l[i] = mark
	}
}

// R3: nothing is remembered of another text, or of another lexicon.
func TestNothingIsRemembered(t *testing.T) {
	x, y := sparedInput(), sparedInput()
	y.t, y.x = book("is sea the old/sea seas", "old sea/the sea"), decided(from(1, "sea", place(1, 0, 0), head("see", 2)), form(2, "sea", head("sea", 0)))
	first, second := x.all(), y.all()
	if !reflect.DeepEqual(x.all(), first) || !reflect.DeepEqual(y.all(), second) {
		t.Error("results are others now")
	}
}

// R4: nil lists and empty ones are the same.
func TestNilAndEmpty(t *testing.T) {
	x := sparedInput()
	x.x, x.h = api.Lexicon{}, head("sea", 0)
	y := x
	y.x = api.Lexicon{Rules: []api.Rule{}, Decisions: []api.Decision{}}
	for i, o := range x.all() {
		other := y.all()[i]
		if o.e != api.OK || other.e != api.OK {
			t.Error(o, other)
		}
		if l, ok := o.result.(api.Lexicon); ok {
			wantList(t, "rules", other.result.(api.Lexicon).Rules, other.e, l.Rules...)
			wantList(t, "decisions", other.result.(api.Lexicon).Decisions, other.e, x.d)
			continue
		}
		if !reflect.DeepEqual(o, other) && !(isZero(o.result) && isZero(other.result)) {
			t.Errorf("%v, not %v", other, o)
		}
	}
	for _, u := range []api.Text{{Chapters: []api.Chapter{}}, {Chapters: []api.Chapter{{Lines: nil}}}, {Chapters: []api.Chapter{{Lines: [][]string{nil}}}}, {Chapters: []api.Chapter{{Lines: [][]string{{}}}}}} {
		x.t = u
		wantAllErrors(t, x, api.ErrText)
	}
}

// R5 and R7: no call panics, whatever the numbers and texts are, and with an error there is no result.
func TestAnyValues(t *testing.T) {
	numbers := []int{math.MinInt, math.MinInt + 1, -1, 0, 1, 2, 3, 12, 13, 255, 256, 257, 999, 1000, math.MaxInt - 1, math.MaxInt}
	d := dice(15)
	number := func() int {
		if d.roll(9) > 0 {
			return 1 + d.roll(3)
		}
		return one(&d, numbers...)
	}
	text := func() string {
		if d.roll(9) > 0 {
			return one(&d, "sea", "is", "old", "a")
		}
		return one(&d, noWords...)
	}
	at := func() api.Place { return place(number()-1, number()-1, number()-1) }
	decision := func() api.Decision {
		x := one(&d, form(number(), text(), head(text(), uint8(number()))), from(number(), text(), at(), head(text(), 1)), only(number(), at(), head(text(), 0)), void(number(), number()))
		if d.roll(9) == 0 {
			x = api.Decision{Number: number(), Kind: uint8(number()), Form: text(), At: at(), To: head(text(), uint8(number())), Of: number()}
		}
		return x
	}
	right := map[string]int{}
	for range 10000 {
		x := input{t: sample(), word: text(), p: at(), h: head(text(), uint8(number())), d: decision()}
		for range d.roll(3) {
			x.x.Rules = append(x.x.Rules, rule(text(), text(), number()))
		}
		for range d.roll(3) {
			x.x.Decisions = append(x.x.Decisions, decision())
		}
		wantErrors(t, x, api.OK)
		for _, o := range x.all() {
			if o.e == api.OK {
				right[o.call]++
			}
		}
	}
	for call, n := range right {
		if n < 10 {
			t.Error(call, n)
		}
	}
	if len(right) != 12 {
		t.Error(right)
	}
}

// R7: the greatest arguments of all calls.
func TestGreatestArguments(t *testing.T) {
	word := "aaaaaaaaaaaa"
	line := slices.Repeat([]string{word}, 10)
	var base api.Text
	for i := range 6 {
		base.Chapters = append(base.Chapters, api.Chapter{Id: i, Lines: slices.Repeat([][]string{line}, 10)})
	}
	x := ruled(slices.Repeat([]api.Rule{rule("aaaaaaaaaaa", word, 12)}, 10)...)
	x.Rules = append(x.Rules, rule("aaaaaaaaaaa", "bbbbbbbbbbb", 1), rule("b", "a", 11))
	for i := range 19 {
		x.Decisions = append(x.Decisions, from(981+i, word, place(5, 9, 9), head(word, uint8(i%4))))
	}
	greatest := head("abbbbbbbbbba", 0)
	in := input{t: base, x: x, word: word, p: place(5, 9, 9), h: greatest, d: form(980, word, greatest)}
	for _, o := range in.all() {
		if o.e != api.OK {
			t.Error(o.call, o.e)
		}
	}
	l, e := stem.Under(base, x, greatest)
	wantList(t, "under", l, e, places(base)[:599]...)
}
