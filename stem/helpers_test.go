package stem_test

import (
	"math"
	"reflect"
	"slices"
	"strings"
	"testing"

	"postil/api"
	"postil/stem"
)

// far is numbers outside of everything that is allowed, of either sign.
var far = []int{math.MinInt, math.MinInt + 1, math.MinInt32, -1, 1000, math.MaxInt32, math.MaxInt - 1, math.MaxInt}

// noWords is texts that are no words.
var noWords = []string{"", "Sea", "the sea", "sea ", " sea", "`", "{", "é", "\x00", "s\xff", "abcdefghijklm", strings.Repeat("a", 300)}

// long is a word of as many letters as there may be.
const long = "abcdefghijkl"

// book is a text of chapters with Ids from 7 down, whose lines are parted by strokes.
func book(chapters ...string) api.Text {
	var t api.Text
	for i, s := range chapters {
		c := api.Chapter{Id: 7 - i}
		for line := range strings.SplitSeq(s, "/") {
			c.Lines = append(c.Lines, strings.Fields(line))
		}
		t.Chapters = append(t.Chapters, c)
	}
	return t
}

// sample is the text of the chapter's examples, and sampleLexicon their lexicon.
func sample() api.Text {
	t := book("the sea is old/old the sea", "sea and sea")
	t.Chapters[1].Id = 3
	return t
}

func sampleLexicon() api.Lexicon {
	return api.Lexicon{
		Rules: []api.Rule{rule("s", "", 2), rule("ld", "lde", 1)},
		Decisions: []api.Decision{
			form(1, "sea", head("sea", api.MarkNoun)),
			from(2, "old", place(0, 1, 0), head("age", api.MarkOther)),
			only(3, place(1, 0, 2), head("see", api.MarkVerb)),
		},
	}
}

func place(chapter, line, word int) api.Place {
	return api.Place{Chapter: chapter, Line: line, Word: word}
}

func head(word string, mark uint8) api.Head { return api.Head{Stem: word, Mark: mark} }

func rule(cut, put string, least int) api.Rule { return api.Rule{Cut: cut, Put: put, Least: least} }

func ruled(l ...api.Rule) api.Lexicon { return api.Lexicon{Rules: l} }

func decided(l ...api.Decision) api.Lexicon { return api.Lexicon{Decisions: l} }

func form(number int, word string, to api.Head) api.Decision {
	return api.Decision{Number: number, Kind: api.DecideForm, Form: word, To: to}
}

func from(number int, word string, at api.Place, to api.Head) api.Decision {
	return api.Decision{Number: number, Kind: api.DecideFrom, Form: word, At: at, To: to}
}

func only(number int, at api.Place, to api.Head) api.Decision {
	return api.Decision{Number: number, Kind: api.DecidePlace, At: at, To: to}
}

func void(number, of int) api.Decision {
	return api.Decision{Number: number, Kind: api.DecideVoid, Of: of}
}

// places is all places of a text, in order, and words what stands there.
func places(t api.Text) []api.Place {
	var l []api.Place
	for c, chapter := range t.Chapters {
		for n, line := range chapter.Lines {
			for w := range line {
				l = append(l, place(c, n, w))
			}
		}
	}
	return l
}

func words(t api.Text) []string {
	var l []string
	for _, p := range places(t) {
		l = append(l, wordAt(t, p))
	}
	return l
}

func wordAt(t api.Text, p api.Place) string { return t.Chapters[p.Chapter].Lines[p.Line][p.Word] }

// noPlaces is values that are no places of a text.
func noPlaces(t api.Text) []api.Place {
	l := []api.Place{place(len(t.Chapters), 0, 0)}
	for c, chapter := range t.Chapters {
		l = append(l, place(c, len(chapter.Lines), 0))
		for n, line := range chapter.Lines {
			l = append(l, place(c, n, len(line)))
		}
	}
	for _, n := range far {
		l = append(l, place(n, 0, 0), place(0, n, 0), place(0, 0, n), place(n, n, n))
	}
	return l
}

// stands tells whether a decision stands, by the word of the document.
func stands(x api.Lexicon, d api.Decision) bool {
	return !slices.ContainsFunc(x.Decisions, func(v api.Decision) bool {
		return v.Kind == api.DecideVoid && v.Number > d.Number && v.Of == d.Number && stands(x, v)
	})
}

// concerns tells whether a decision, if it stands, concerns a place.
func concerns(t api.Text, d api.Decision, p api.Place) bool {
	l := places(t)
	switch d.Kind {
	case api.DecideForm:
		return wordAt(t, p) == d.Form
	case api.DecideFrom:
		return wordAt(t, p) == d.Form && slices.Index(l, d.At) <= slices.Index(l, p)
	case api.DecidePlace:
		return d.At == p
	}
	return false
}

// deciding is the decision whose To is the head of a place: each rank of them is asked for, one after the other.
func deciding(t api.Text, x api.Lexicon, p api.Place) api.Decision {
	for _, kind := range []uint8{api.DecidePlace, api.DecideFrom} {
		for _, at := range slices.Backward(places(t)) {
			if d := greatest(t, x, p, func(d api.Decision) bool { return d.Kind == kind && d.At == at }); d.Number > 0 {
				return d
			}
		}
	}
	return greatest(t, x, p, func(d api.Decision) bool { return d.Kind == api.DecideForm })
}

// greatest is the decision with the greatest Number of those that stand, concern a place, and are such.
func greatest(t api.Text, x api.Lexicon, p api.Place, such func(d api.Decision) bool) api.Decision {
	var best api.Decision
	for _, d := range x.Decisions {
		if such(d) && concerns(t, d, p) && stands(x, d) && d.Number > best.Number {
			best = d
		}
	}
	return best
}

// headOf is the head of a place, and headsOf those of all places, by the word of the document.
func headOf(t api.Text, x api.Lexicon, p api.Place) api.Head {
	if d := deciding(t, x, p); d.Number > 0 {
		return d.To
	}
	return head(stemOf(x, wordAt(t, p)), api.MarkNone)
}

func headsOf(t api.Text, x api.Lexicon) []api.Head {
	var l []api.Head
	for _, p := range places(t) {
		l = append(l, headOf(t, x, p))
	}
	return l
}

// stemOf is the stem of a word.
func stemOf(x api.Lexicon, word string) string {
	for range 4 {
		for _, r := range x.Rules {
			if applies(r, word) {
				word = made(r, word)
				break
			}
		}
	}
	return word
}

// applies tells whether a rule applies to a word, and made is what it makes of it.
func applies(r api.Rule, word string) bool {
	return strings.HasSuffix(word, r.Cut) && len(word)-len(r.Cut) >= r.Least && len(made(r, word)) <= 12
}

func made(r api.Rule, word string) string { return word[:len(word)-len(r.Cut)] + r.Put }

// with is a lexicon with more decisions, and without one that has lost some.
func with(x api.Lexicon, more ...api.Decision) api.Lexicon {
	return api.Lexicon{Rules: x.Rules, Decisions: slices.Concat(x.Decisions, more)}
}

func without(x api.Lexicon, numbers ...int) api.Lexicon {
	l := slices.DeleteFunc(slices.Clone(x.Decisions), func(d api.Decision) bool { return slices.Contains(numbers, d.Number) })
	return api.Lexicon{Rules: x.Rules, Decisions: l}
}

// differing is all places, in order, whose heads are not the same in two lists.
func differing(t api.Text, a, b []api.Head) []api.Place {
	var l []api.Place
	for n, p := range places(t) {
		if a[n] != b[n] {
			l = append(l, p)
		}
	}
	return l
}

// numbersOf is the Numbers of all decisions of which something is so, in increasing order.
func numbersOf(x api.Lexicon, isSo func(d api.Decision) bool) []int {
	var l []int
	for _, d := range x.Decisions {
		if isSo(d) {
			l = append(l, d.Number)
		}
	}
	slices.Sort(l)
	return l
}

// dice are numbers that look like chance, the same ones in each run.
type dice uint64

// roll is a number below n.
func (d *dice) roll(n int) int {
	*d = *d*6364136223846793005 + 1442695040888963407
	return int(uint64(*d) >> 33 % uint64(n))
}

// one is one of several things.
func one[T any](d *dice, l ...T) T { return l[d.roll(len(l))] }

// text is a text in which words come often.
func (d *dice) text() api.Text {
	var chapters []string
	for range 1 + d.roll(3) {
		var lines []string
		for range 1 + d.roll(3) {
			var line []string
			for range 1 + d.roll(6) {
				line = append(line, d.word())
			}
			lines = append(lines, strings.Join(line, " "))
		}
		chapters = append(chapters, strings.Join(lines, "/"))
	}
	return book(chapters...)
}

func (d *dice) word() string { return one(d, "a", "b", "ab", "abb", "bab") }

func (d *dice) head() api.Head { return head(d.word(), uint8(d.roll(2))) }

func (d *dice) rule() api.Rule {
	for {
		r := rule(one(d, "a", "b", "ab", "bb"), one(d, "", "a", "ba", "abb", "aaaaaaa"), 1+d.roll(3))
		if r.Cut != r.Put {
			return r
		}
	}
}

// decision is a decision with a Number, about a text.
func (d *dice) decision(t api.Text, number int) api.Decision {
	at := one(d, places(t)...)
	switch d.roll(4) {
	case 0:
		return form(number, d.word(), d.head())
	case 1:
		return only(number, at, d.head())
	case 2:
		if number > 1 {
			return void(number, 1+d.roll(number-1))
		}
	}
	return from(number, d.word(), at, d.head())
}

// lexicon is a valid lexicon of a text, with up to so many decisions, in any order, with Numbers that are not above 25.
func (d *dice) lexicon(t api.Text, most int) api.Lexicon {
	var x api.Lexicon
	for range d.roll(4) {
		x.Rules = append(x.Rules, d.rule())
	}
	for _, number := range d.shuffled(25)[:d.roll(most+1)] {
		x.Decisions = append(x.Decisions, d.decision(t, number))
	}
	return x
}

// shuffled is the numbers from 1 to n, in any order.
func (d *dice) shuffled(n int) []int {
	l := make([]int, n)
	for i := range l {
		j := d.roll(i + 1)
		l[i] = l[j]
		l[j] = i + 1
	}
	return l
}

// input is arguments for all calls.
type input struct {
	t    api.Text
	x    api.Lexicon
	word string
	p    api.Place
	h    api.Head
	d    api.Decision
}

// outcome is what a call returned: its result, and its error.
type outcome struct {
	call   string
	result any
	e      api.Errno
}

// all is what all calls return.
func (x input) all() []outcome {
	var l []outcome
	add := func(call string, result any, e api.Errno) { l = append(l, outcome{call, result, e}) }
	add("Check", nil, stem.Check(x.t, x.x))
	steps, e := stem.Steps(x.t, x.x, x.word)
	add("Steps", steps, e)
	standing, e := stem.Standing(x.t, x.x)
	add("Standing", standing, e)
	of, e := stem.HeadOf(x.t, x.x, x.p)
	add("HeadOf", of, e)
	by, e := stem.By(x.t, x.x, x.p)
	add("By", by, e)
	heads, e := stem.Heads(x.t, x.x)
	add("Heads", heads, e)
	under, e := stem.Under(x.t, x.x, x.h)
	add("Under", under, e)
	forms, e := stem.Forms(x.t, x.x, x.h)
	add("Forms", forms, e)
	homographs, e := stem.Homographs(x.t, x.x)
	add("Homographs", homographs, e)
	idle, e := stem.Idle(x.t, x.x)
	add("Idle", idle, e)
	more, e := stem.Add(x.t, x.x, x.d)
	add("Add", more, e)
	changes, e := stem.Changes(x.t, x.x, x.d)
	add("Changes", changes, e)
	return l
}

// wantErrors checks the errors of calls that are named, and that no call with an error has a result.
func wantErrors(t *testing.T, x input, e api.Errno, calls ...string) {
	t.Helper()
	for _, o := range x.all() {
		if slices.Contains(calls, o.call) && o.e != e {
			t.Errorf("%s of %+v: %v, not %v", o.call, x, o.e, e)
		}
		if o.e != api.OK && !isZero(o.result) {
			t.Errorf("%s of %+v: %v, with the result %v", o.call, x, o.e, o.result)
		}
	}
}

// wantAllErrors checks that all calls return the same error.
func wantAllErrors(t *testing.T, x input, e api.Errno) {
	t.Helper()
	wantErrors(t, x, e, "Check", "Steps", "Standing", "HeadOf", "By", "Heads", "Under", "Forms", "Homographs", "Idle", "Add", "Changes")
}

func isZero(x any) bool {
	v := reflect.ValueOf(x)
	return x == nil || v.IsZero() || v.Kind() == reflect.Slice && v.Len() == 0
}

// wantList checks a list, and that its error is OK.
func wantList[T comparable](t *testing.T, what any, l []T, e api.Errno, want ...T) {
	t.Helper()
	if !slices.Equal(l, want) || e != api.OK {
		t.Errorf("%v: %v, %v, not %v", what, l, e, want)
	}
}

// wantOne checks a result that is no list, and that its error is OK.
func wantOne[T comparable](t *testing.T, what any, x T, e api.Errno, want T) {
	t.Helper()
	wantList(t, what, []T{x}, e, want)
}

// wantHeads checks the heads of all places of a text.
func wantHeads(t *testing.T, base api.Text, x api.Lexicon, want []api.Head) {
	t.Helper()
	for n, p := range places(base) {
		h, e := stem.HeadOf(base, x, p)
		wantOne(t, []any{x, p}, h, e, want[n])
	}
}
