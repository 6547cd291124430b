package sheaf_test

import (
	"fmt"
	"math"
	"reflect"
	"slices"
	"strings"
	"testing"

	"postil/api"
	"postil/sheaf"
)

// input is arguments for all calls: o, a and b are files that are merged, and o is what is checked, written and saved, too; of is rows of each kind.
type input struct {
	o, a, b    []string
	bytes      string
	text       api.Text
	copied     api.Copy
	slips      []api.Slip
	lexicon    api.Lexicon
	of         [4][]string
	shelf      api.Shelf
	generation int
}

// outcome is what a call returned: its results, and its error.
type outcome struct {
	call    string
	results []any
	e       api.Errno
}

// all is what all calls return.
func (x input) all() []outcome {
	var l []outcome
	add := func(call string, e api.Errno, results ...any) { l = append(l, outcome{call, results, e}) }
	add("Check", sheaf.Check(x.o))
	s, e := sheaf.Write(x.o)
	add("Write", e, s)
	read, bytes, e := sheaf.Read(x.bytes)
	add("Read", e, read, bytes)
	ofText, e := sheaf.OfText(x.text)
	add("OfText", e, ofText)
	ofCopy, e := sheaf.OfCopy(x.text, x.copied)
	add("OfCopy", e, ofCopy)
	ofSlips, e := sheaf.OfSlips(x.slips)
	add("OfSlips", e, ofSlips)
	ofLexicon, e := sheaf.OfLexicon(x.text, x.lexicon)
	add("OfLexicon", e, ofLexicon)
	for n, k := range kinds {
		y, e := k.read(x.text, x.of[n])
		add("To "+k.name, e, y)
	}
	add("CheckShelf", sheaf.CheckShelf(x.shelf))
	saved, e := sheaf.Save(x.shelf, x.o)
	add("Save", e, saved)
	back, e := sheaf.Back(x.shelf, x.generation)
	add("Back", e, back)
	pruned, e := sheaf.Prune(x.shelf, x.generation)
	add("Prune", e, pruned)
	merged, e := sheaf.Merge(x.o, x.a, x.b)
	add("Merge", e, merged)
	return l
}

// isZero tells whether a result is zero; an empty list is as nil.
func isZero(x any) bool { return same(reflect.ValueOf(x), reflect.Zero(reflect.TypeOf(x))) }

// wantErrors checks that all calls have one of some errors, and no results with any but OK.
func wantErrors(t *testing.T, x input, errors ...api.Errno) {
	t.Helper()
	for _, o := range x.all() {
		if !slices.Contains(errors, o.e) {
			t.Errorf("%s of %.2000v: %v, not one of %v", o.call, x, o.e, errors)
		}
		if o.e != api.OK && slices.ContainsFunc(o.results, func(result any) bool { return !isZero(result) }) {
			t.Errorf("%s of %.2000v: %v, with the results %v", o.call, x, o.e, o.results)
		}
	}
}

// spare is a list with more memory behind its end, in which a mark stands.
func spare[T any](l []T, mark T) []T {
	return append(slices.Clone(l), mark, mark)[:len(l)]
}

// sparedInput is an input with which all calls are OK, and have results, whose lists have more memory behind their ends.
func sparedInput() input {
	text, copied, lexicon, s := sample(), cold(), decided(), abc()
	for i, c := range text.Chapters {
		for n, line := range c.Lines {
			c.Lines[n] = spare(line, "mark")
		}
		text.Chapters[i].Lines = spare(c.Lines, rows("mark"))
	}
	for i, h := range s.Changes {
		s.Changes[i].Put = spare(h.Put, "mark")
	}
	x := input{
		o:       spare(letters("abcde"), "mark"),
		a:       spare(letters("xbcde"), "mark"),
		b:       spare(letters("abcy"), "mark"),
		bytes:   bytesOf("ab", "b") + "more",
		text:    api.Text{Chapters: spare(text.Chapters, api.Chapter{Id: 77})},
		copied:  copyOf(4, spare(copied.Readings, api.Reading{Kind: 77})...),
		slips:   spare(three(), api.Slip{Word: "mark"}),
		lexicon: api.Lexicon{Rules: spare(lexicon.Rules, api.Rule{Least: 77}), Decisions: spare(lexicon.Decisions, api.Decision{Number: 77})},
		shelf:   shelf(spare(s.First, "mark"), spare(s.Changes, hunk(77, 77))...),
		// Its rows are those of a hunk and of what was there before.
		generation: 1,
	}
	for n, y := range []any{text, copied, three(), lexicon} {
		x.of[n] = spare(rowsOf(y), "mark")
	}
	return x
}

// memory is a copy of all that the lists of an input have, up to what is behind their ends.
func memory(x any) []any {
	var all []any
	var look func(v reflect.Value)
	look = func(v reflect.Value) {
		switch v.Kind() {
		case reflect.Slice:
			for i := range v.Cap() {
				look(v.Slice(0, v.Cap()).Index(i))
			}
		case reflect.Array:
			for i := range v.Len() {
				look(v.Index(i))
			}
		case reflect.Struct:
			for i := range v.NumField() {
				look(v.Field(i))
			}
		default:
			all = append(all, fmt.Sprint(v))
		}
	}
	look(reflect.ValueOf(x))
	return all
}

// spoil writes to all memory of the lists of a result, up to what is behind their ends.
func spoil(v reflect.Value) {
	switch v.Kind() {
	case reflect.Slice:
		v = v.Slice(0, v.Cap())
		for i := range v.Len() {
			spoil(v.Index(i))
			v.Index(i).Set(reflect.Zero(v.Type().Elem()))
			if v.Index(i).Kind() == reflect.String {
				v.Index(i).SetString("spoiled")
			}
		}
	case reflect.Struct:
		for i := range v.NumField() {
			spoil(v.Field(i))
		}
	}
}

// R3: no argument is written to, nor the memory behind the end of one; and the same arguments have the same results.
func TestArgumentsAreNotWrittenTo(t *testing.T) {
	x := sparedInput()
	before, first := memory(x), x.all()
	if !reflect.DeepEqual(before, memory(x)) {
		t.Errorf("arguments are %v, not %v any more", memory(x), before)
	}
	for i, o := range x.all() {
		if o.e != api.OK || !reflect.DeepEqual(o, first[i]) {
			t.Errorf("%s: %v, then %v", o.call, first[i], o)
		}
		if slices.ContainsFunc(o.results, isZero) {
			t.Errorf("%s: %v", o.call, o.results)
		}
	}
}

// alike is inputs with which results may be parts of arguments: files that are the same, and generations at the ends of a shelf.
func alike() []input {
	l := []input{sparedInput()}
	for generation := range 5 {
		x := sparedInput()
		x.generation = generation
		l = append(l, x)
	}
	for n := range 4 {
		x := sparedInput()
		switch n {
		case 0:
			x.a = x.o
		case 1:
			x.b = x.o
		case 2:
			x.a = x.b
		case 3:
			x.shelf.Changes = nil
			x.generation = 0
		}
		l = append(l, x)
	}
	return l
}

// R3: what is written to a result is seen in no argument, and in no other result.
func TestResultsShareNoMemory(t *testing.T) {
	for _, x := range alike() {
		before, first := memory(x), x.all()
		for _, o := range x.all() {
			for _, result := range o.results {
				spoil(reflect.ValueOf(result))
			}
		}
		if !reflect.DeepEqual(before, memory(x)) {
			t.Errorf("arguments are %v, not %v any more", memory(x), before)
		}
		if again := x.all(); !reflect.DeepEqual(first, again) {
			t.Errorf("results are %v, not %v any more", again, first)
		}
	}
}

// R3: no two lists of one result share memory: what is written to one of them, and behind its end, is seen in no other one.
func TestListsOfAResultShareNoMemory(t *testing.T) {
	d := dice(9)
	for range 200 {
		s := d.shelf(10)
		for n := range 1 + len(s.Changes) {
			x, _ := sheaf.Prune(s, n)
			y, _ := sheaf.Save(s, d.few(5))
			for _, z := range []api.Shelf{x, y} {
				lists := [][]string{z.First}
				for _, h := range z.Changes {
					lists = append(lists, h.Put)
				}
				wantApart(t, lists)
			}
		}
		text := d.text()
		text, _ = sheaf.ToText(rowsOf(text))
		var lists [][]string
		for _, c := range text.Chapters {
			lists = append(lists, c.Lines...)
		}
		wantApart(t, lists)
		for i, c := range text.Chapters {
			spoil(reflect.ValueOf(c.Lines))
			for _, other := range text.Chapters[i+1:] {
				if len(other.Lines[0]) == 0 {
					t.Errorf("%v", text)
				}
			}
		}
	}
}

// wantApart checks that what is written to each of several lists, and behind its end, is seen in no other one.
func wantApart(t *testing.T, lists [][]string) {
	t.Helper()
	for i, l := range lists {
		l = l[:cap(l)]
		for n := range l {
			l[n] = fmt.Sprint(i)
		}
	}
	for i, l := range lists {
		if slices.ContainsFunc(l[:cap(l)], func(s string) bool { return s != fmt.Sprint(i) }) {
			t.Errorf("%d: %v", i, lists)
		}
	}
}

// R3: nothing is remembered of other arguments.
func TestNothingIsRemembered(t *testing.T) {
	d := dice(10)
	x, y := sparedInput(), d.input()
	first, second := x.all(), y.all()
	if !reflect.DeepEqual(x.all(), first) || !reflect.DeepEqual(y.all(), second) {
		t.Error("results are others now")
	}
}

// R4: nil lists and empty ones are the same.
func TestNilAndEmpty(t *testing.T) {
	none, empty := input{text: sample()}, input{text: sample(), o: rows(), a: rows(), b: rows(), copied: api.Copy{Readings: []api.Reading{}}, slips: []api.Slip{}, lexicon: api.Lexicon{Rules: []api.Rule{}, Decisions: []api.Decision{}}, of: [4][]string{{}, {}, {}, {}}, shelf: shelf([]string{}, []api.Hunk{}...)}
	empty.o, empty.a, empty.b = []string{}, []string{}, []string{}
	first, second := none.all(), empty.all()
	for i, o := range first {
		p := second[i]
		if o.e != p.e {
			t.Errorf("%s: %v, %v", o.call, o, p)
		}
		for n, result := range o.results {
			if !same(reflect.ValueOf(result), reflect.ValueOf(p.results[n])) {
				t.Errorf("%s: %v, %v", o.call, o, p)
			}
		}
		want := map[string]api.Errno{"To text": api.ErrText, "To copy": api.ErrKind}[o.call]
		if o.e != want {
			t.Errorf("%s: %v, not %v", o.call, o.e, want)
		}
	}
	for _, text := range []api.Text{{}, {Chapters: []api.Chapter{}}, {Chapters: []api.Chapter{{Lines: [][]string{}}}}, {Chapters: []api.Chapter{{Lines: [][]string{{}}}}}} {
		if l, e := sheaf.OfText(text); len(l) != 0 || e != api.ErrText {
			t.Errorf("%v: %v, %v", text, l, e)
		}
	}
	for _, put := range [][]string{nil, {}} {
		s := api.Shelf{First: put, Changes: []api.Hunk{{Put: put}}}
		l, e := sheaf.Back(s, 1)
		wantList(t, s, l, e)
		x, e := sheaf.Save(s, put)
		wantAny(t, s, x, e, shelf(nil, hunk(0, 0), hunk(0, 0)))
	}
}

// input is any input that is valid.
func (d *dice) input() input {
	text := d.text()
	o := d.few(10)
	x := input{o: o, a: d.edited(o), b: d.edited(o), bytes: bytesOf(d.few(5)...), text: text, copied: d.copy(text), slips: d.slips(9), lexicon: d.lexicon(text), shelf: d.shelf(8)}
	x.generation = d.roll(1 + len(x.shelf.Changes))
	for n, k := range kinds {
		x.of[n] = d.rowsOfKind(k, text)
	}
	return x
}

// R2, R5 and R7: no call panics, whatever the numbers and words are, and with an error there is no result.
func TestAnyValues(t *testing.T) {
	numbers := []int{math.MinInt, math.MinInt + 1, math.MinInt32, -2, -1, 0, 1, 2, 3, 11, 12, 160, 161, 199, 200, 201, 255, 256, 9999, 10000, 30000, math.MaxInt32, math.MaxInt - 1, math.MaxInt}
	d := dice(11)
	number := func() int { return one(&d, append(numbers, d.roll(4), d.roll(4))...) }
	text := func() string { return one(&d, append(append(noRows, noWords...), d.word(), d.word(), "a b")...) }
	right := map[string]int{}
	for range 2500 {
		x := d.input()
		switch d.roll(14) {
		case 0:
			x.o = append(x.o, text())
		case 1:
			x.a, x.b = append(x.a, text()), d.few(3)
		case 2:
			x.bytes += text() + bytesOf(text())
		case 3:
			x.text.Chapters[0].Lines[0][0] = text()
		case 4:
			x.text.Chapters[0].Id = number()
		case 5:
			x.copied.Readings = append(x.copied.Readings, reading(uint8(number()), place(number(), number(), number()), text()))
		case 6:
			x.slips = append(x.slips, slipOf(place(number(), number(), number()), text(), text(), text()))
		case 7:
			x.lexicon.Decisions = append(x.lexicon.Decisions, api.Decision{Number: number(), Kind: uint8(number()), Form: text(), At: place(number(), number(), number()), To: head(text(), uint8(number())), Of: number()})
		case 8:
			x.lexicon.Rules = append(x.lexicon.Rules, api.Rule{Cut: text(), Put: text(), Least: number()})
		case 9:
			n := d.roll(4)
			x.of[n] = d.torn(append(x.of[n], text()))
		case 10:
			x.shelf.Changes = append(x.shelf.Changes, hunk(number(), number(), text()))
		case 11:
			x.generation = number()
		case 12:
			x.shelf.First = append(x.shelf.First, text())
		}
		wantErrors(t, x, api.OK, api.ErrArg, api.ErrFull, api.ErrText, api.ErrCopy, api.ErrSlip, api.ErrLexicon, api.ErrRows, api.ErrKind, api.ErrShelf, api.ErrMerge)
		for _, o := range x.all() {
			if o.e == api.OK {
				right[o.call]++
			}
		}
	}
	for _, o := range (input{}).all() {
		if right[o.call] < 500 {
			t.Error(o.call, right[o.call])
		}
	}
}

// R7: the greatest arguments of all calls.
func TestGreatestArguments(t *testing.T) {
	row := strings.Repeat("~", 160)
	most := slices.Repeat(rows(row), 200)
	x := input{o: filled(30000), a: append(rows(row), filled(30000)[1:]...), b: append(filled(30000)[:199], row), bytes: bytesOf(filled(30000)...), slips: slices.Repeat([]api.Slip{slipOf(place(9999, 9999, 9999), "abcdefghijkl", side, "")}, 100), generation: 11}
	x.shelf = shelf(most)
	for range 11 {
		x.shelf.Changes = append(x.shelf.Changes, hunk(0, 200, most...))
	}
	for i := range 6 {
		c := api.Chapter{Id: 9999 - i}
		for range 10 {
			c.Lines = append(c.Lines, slices.Repeat(rows("abcdefghijkl"), 10))
		}
		x.text.Chapters = append(x.text.Chapters, c)
	}
	x.copied = copyOf(9999)
	for n := range 20 {
		x.copied.Readings = append(x.copied.Readings, reading(api.ReadOther, place(5, 8+n/10, n%10), "lkjihgfedcba"))
	}
	for n := range 20 {
		x.lexicon.Decisions = append(x.lexicon.Decisions, api.Decision{Number: 999 - n, Kind: api.DecideFrom, Form: "abcdefghijkl", At: place(5, 9, 9), To: head("lkjihgfedcba", 3)})
	}
	x.lexicon.Rules = slices.Repeat([]api.Rule{{Cut: "abcdefghijkl", Put: "lkjihgfedcba", Least: 12}}, 12)
	for n, y := range []any{x.text, x.copied, x.slips, x.lexicon} {
		x.of[n] = rowsOf(y)
	}
	for _, o := range x.all() {
		want := api.OK
		if o.call == "Save" {
			want = api.ErrFull
		}
		if o.e != want {
			t.Errorf("%s: %v, not %v", o.call, o.e, want)
		}
	}
	l, e := sheaf.Back(x.shelf, 11)
	wantList(t, "back", l, e, most...)
	saved, e := sheaf.Save(shelf(most, x.shelf.Changes[:10]...), slices.Repeat(rows("a"), 200))
	wantAny(t, "save", saved, e, shelf(most, append(x.shelf.Changes[:10:10], hunk(0, 200, slices.Repeat(rows("a"), 200)...))...))
	merged, e := sheaf.Merge(x.o, x.a, x.b)
	wantList(t, "merge", merged, e, append(x.a[:199:199], row)...)
	for n, k := range kinds {
		wantKind(t, k, x.text, x.of[n], api.OK)
	}
}
