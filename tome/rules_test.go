package tome_test

import (
	"math"
	"reflect"
	"slices"
	"testing"

	"postil/api"
	"postil/tome"
)

// spare is a list with more memory behind its end, in which a mark stands.
func spare[T any](l []T, mark T) []T {
	return append(slices.Clone(l), mark, mark)[:len(l)]
}

// sparedInput is an input with which all calls are OK, and have results, whose lists have more memory behind their ends.
func sparedInput() input {
	torn := edited(made(), func(v *api.Volume) {
		v.Entries[4].Forms[0].Rows[0] = openRow(place(0, 1, 2), ref(2, 5, 3))
		v.Entries[5].Forms[0].Rows = nil
	})
	x := input{r: with(sample(), func(*api.Records) {}), h: head("sea", api.MarkNoun), x: six(), d: form(4, "sea", head("see", api.MarkVerb)), v: torn, p: place(1, 0, 0)}
	for i, c := range x.r.Text.Chapters {
		for n, line := range c.Lines {
			c.Lines[n] = spare(line, "mark")
		}
		x.r.Text.Chapters[i].Lines = spare(c.Lines, []string{"mark"})
	}
	x.r.Text.Chapters = spare(x.r.Text.Chapters, api.Chapter{Id: 77})
	for i, c := range x.r.Copies {
		x.r.Copies[i].Readings = spare(c.Readings, api.Reading{Kind: 77})
	}
	x.r.Copies = spare(x.r.Copies, api.Copy{Id: 77})
	x.r.Lexicon.Rules = spare(x.r.Lexicon.Rules, api.Rule{Least: 77})
	x.r.Lexicon.Decisions = spare(x.r.Lexicon.Decisions, api.Decision{Number: 77})
	x.r.Edition.Stretches, x.x.Stretches = spare(x.r.Edition.Stretches, stretch(7, 7, 7, 7, 7)), spare(x.x.Stretches, stretch(7, 7, 7, 7, 7))
	for i, y := range x.v.Entries {
		for j, f := range y.Forms {
			y.Forms[j].Rows = spare(f.Rows, api.Row{Sure: 77})
		}
		x.v.Entries[i].Forms = spare(y.Forms, formOf("mark"))
	}
	x.v.Entries = spare(x.v.Entries, entry(head("mark", 77)))
	return x
}

// memory is a copy of all that the lists of arguments have, up to what is behind their ends.
func memory(x input) any {
	r := x.r
	all := []any{whole(r.Lexicon.Rules), whole(r.Lexicon.Decisions), whole(r.Edition.Stretches), whole(x.x.Stretches)}
	for _, c := range r.Text.Chapters[:cap(r.Text.Chapters)] {
		all = append(all, c.Id)
		for _, line := range c.Lines[:cap(c.Lines)] {
			all = append(all, whole(line))
		}
	}
	for _, c := range r.Copies[:cap(r.Copies)] {
		all = append(all, c.Id, whole(c.Readings))
	}
	return append(all, memoryOf(x.v)...)
}

// memoryOf is a copy of all that the lists of a volume have.
func memoryOf(v api.Volume) []any {
	var all []any
	for _, x := range v.Entries[:cap(v.Entries)] {
		all = append(all, x.Head)
		for _, f := range x.Forms[:cap(x.Forms)] {
			all = append(all, f.Word, whole(f.Rows))
		}
	}
	return all
}

func whole[T any](l []T) []T { return slices.Clone(l[:cap(l)]) }

// R3: no argument is written to, nor the memory behind the end of one; and the same arguments have the same results.
func TestArgumentsAreNotWrittenTo(t *testing.T) {
	x := sparedInput()
	before, first := memory(x), x.all()
	if !reflect.DeepEqual(before, memory(x)) {
		t.Errorf("arguments are %v, not %v any more", memory(x), before)
	}
	for i, o := range x.all() {
		if o.e != api.OK || !reflect.DeepEqual(o, first[i]) {
			t.Errorf("%s: %v, then %v", o.call, first[i], o)
		}
		// The indices of Find are all zero only by chance.
		if len(o.results) > 0 && !slices.ContainsFunc(o.results, func(result any) bool { return !isZero(result) }) {
			t.Errorf("%s: %v", o.call, o.results)
		}
	}
}

// R3: what is written to a result is seen in no argument, and in no other result.
func TestResultsShareNoMemory(t *testing.T) {
	x := sparedInput()
	before, first := memory(x), x.all()
	for _, o := range x.all() {
		for _, result := range o.results {
			switch y := result.(type) {
			case api.Volume:
				spoil(y)
			case api.Entry:
				spoil(volume(y))
			case []api.Head:
				fill(y, head("spoiled", 66))
			case []string:
				fill(y, "spoiled")
			case []api.Place:
				fill(y, place(6, 6, 6))
			case [][3]int:
				fill(y, [3]int{6, 6, 6})
			}
		}
	}
	if !reflect.DeepEqual(before, memory(x)) {
		t.Errorf("arguments are %v, not %v any more", memory(x), before)
	}
	if again := x.all(); !reflect.DeepEqual(first, again) {
		t.Errorf("results are %v, not %v any more", again, first)
	}
}

// fill writes to all memory of a list, up to what is behind its end.
func fill[T any](l []T, mark T) {
	l = l[:cap(l)]
	for i := range l {
		l[i] = mark
	}
}

// spoil writes to all memory of a volume.
func spoil(v api.Volume) {
	for _, x := range v.Entries {
		for _, f := range x.Forms {
			fill(f.Rows, row(place(6, 6, 6), ref(6, 6, 6), 66))
		}
		fill(x.Forms, formOf("spoiled"))
	}
	fill(v.Entries, entry(head("spoiled", 66)))
}

// R3: no two lists of one result share memory: what is written to one of them, and behind its end, is seen in no other one.
func TestListsOfAResultShareNoMemory(t *testing.T) {
	d := dice(13)
	for range 50 {
		r := d.records(2, 10)
		for n, s := range spots(volumeOf(r)) {
			made, _ := tome.Make(r)
			in, _ := tome.In(r, r.Edition)
			of, _ := tome.Of(r, s.head)
			for i, v := range []api.Volume{made, in, volume(of)} {
				before, at := spots(v), s.at
				if i == 2 {
					at[0] = 0
				}
				f := v.Entries[at[0]].Forms[at[1]]
				fill(f.Rows, api.Row{})
				for _, x := range before {
					same := x.at[0] == at[0] && x.at[1] == at[1]
					if now := v.Entries[x.at[0]].Forms[x.at[1]].Rows[x.at[2]]; !same && now != x.row {
						t.Errorf("%d: %v is %v now", n, x, now)
					}
				}
				forms := v.Entries[at[0]].Forms
				fill(forms, formOf("spoiled"))
				for _, x := range before {
					if now := v.Entries[x.at[0]].Forms[x.at[1]]; x.at[0] != at[0] && now.Word != x.word {
						t.Errorf("%d: %v is %v now", n, x, now)
					}
				}
			}
		}
	}
}

// R3: nothing is remembered of other arguments.
func TestNothingIsRemembered(t *testing.T) {
	d := dice(14)
	r, more := d.more()
	x, y := sparedInput(), input{r: r, d: more, h: volumeOf(r).Entries[0].Head, v: d.torn(r), x: d.edition(r.Text)}
	first, second := x.all(), y.all()
	if !reflect.DeepEqual(x.all(), first) || !reflect.DeepEqual(y.all(), second) {
		t.Error("results are others now")
	}
}

// R4: nil lists and empty ones are the same.
func TestNilAndEmpty(t *testing.T) {
	for _, text := range []api.Text{{}, {Chapters: []api.Chapter{}}, {Chapters: []api.Chapter{{Lines: [][]string{}}}}, {Chapters: []api.Chapter{{Lines: [][]string{{}}}}}} {
		wantErrors(t, input{r: api.Records{Text: text}}, api.ErrText, calls...)
	}
	r, want := bare("sea"), volume(entry(head("sea", 0), formOf("sea", sureRow(place(0, 0, 0), api.Ref{}))))
	for _, copies := range [][]api.Copy{nil, {}, {{}}, {{Readings: []api.Reading{}}}} {
		for _, stretches := range [][]api.Stretch{nil, {}} {
			for _, lexicon := range []api.Lexicon{{}, {Rules: []api.Rule{}, Decisions: []api.Decision{}}} {
				r.Copies, r.Edition.Stretches, r.Lexicon = copies, stretches, lexicon
				v, e := tome.Make(r)
				wantVolume(t, r, v, e, want)
				v, e = tome.In(r, edition(1, stretches...))
				wantVolume(t, r, v, e, want)
				l, e := tome.Changed(r, form(1, "sea", head("sea", 0)))
				wantList(t, r, l, e)
				lines, e := tome.Print(r, head("sea", 0))
				wantList(t, r, lines, e, "sea", "sea 1", "-: [sea]")
			}
		}
	}
	for _, v := range []api.Volume{{}, volume([]api.Entry{}...), volume(entry(head("sea", 0))), volume(api.Entry{Forms: []api.Form{}}), volume(entry(head("sea", 0), formOf("sea"))), volume(entry(head("sea", 0), api.Form{Word: "sea", Rows: []api.Row{}}))} {
		rows, open, e := tome.Count(v)
		wantOne(t, v, [2]int{rows, open}, e, [2]int{})
		wantErrors(t, input{r: r, v: v}, api.ErrNone, "Find")
		l, e := tome.Lacks(r, v)
		wantList(t, v, l, e, place(0, 0, 0))
		l, e = tome.Twice(r, v)
		wantList(t, v, l, e)
		at, e := tome.Wrong(r, v)
		wantList(t, v, at, e)
	}
}

// R5 and R7: no call panics, whatever the numbers and words are, and with an error there is no result.
func TestAnyValues(t *testing.T) {
	numbers := []int{math.MinInt, math.MinInt + 1, math.MinInt32, -2, -1, 0, 1, 2, 3, 4, 5, 10, 11, 12, 13, 80, 81, 255, 256, 700, 701, 998, 999, 1000, 9999, 10000, math.MaxInt32, math.MaxInt - 1, math.MaxInt}
	d := dice(15)
	number := func() int {
		if d.roll(12) > 0 {
			return d.roll(2)
		}
		return one(&d, numbers...)
	}
	at := func() api.Place { return place(number(), number(), number()) }
	word := func() string { return one(&d, append(noWords, d.word(), d.word(), d.word())...) }
	right := map[string]int{}
	for range 2500 {
		r, more := d.more()
		x := input{r: with(r, func(*api.Records) {}), h: one(&d, volumeOf(r).Entries...).Head, x: d.edition(r.Text), d: more, v: d.torn(r), p: at()}
		switch d.roll(16) {
		case 0:
			x.r.Cut = api.Cut{Width: number(), Side: uint8(number())}
		case 1:
			x.r.Copies = append(x.r.Copies, copyOf(number(), reading(uint8(number()), at(), word())))
		case 2:
			x.r.Edition.Stretches = append(x.r.Edition.Stretches, stretch(number(), number(), number(), number(), number()))
		case 3:
			x.x.Stretches = append(x.x.Stretches, stretch(number(), number(), number(), number(), number()))
		case 4:
			x.r.Lexicon.Decisions = append(x.r.Lexicon.Decisions, api.Decision{Number: number(), Kind: uint8(number()), Form: word(), At: at(), To: head(word(), uint8(number())), Of: number()})
		case 5:
			x.d = api.Decision{Number: number(), Kind: uint8(number()), Form: word(), At: at(), To: head(word(), uint8(number())), Of: number()}
		case 6:
			x.h = head(word(), uint8(number()))
		case 7:
			x.v.Entries = append(x.v.Entries, entry(head(word(), uint8(number())), formOf(word(), row(at(), ref(number(), number(), number()), uint8(number())))))
		case 8:
			x.r.Text.Chapters[0].Lines[0][0] = word()
		case 9:
			x.v = spread(700+d.roll(2), 700+d.roll(2), 700+d.roll(2))
		case 10:
			x.r.Lexicon.Rules = append(x.r.Lexicon.Rules, api.Rule{Cut: word(), Put: word(), Least: number()})
		}
		wantErrors(t, x, api.OK)
		for _, o := range x.all() {
			if o.e == api.OK {
				right[o.call]++
			}
		}
	}
	for _, call := range append([]string{"Count"}, calls...) {
		if right[call] < 500 {
			t.Error(call, right[call])
		}
	}
}

// R7: the greatest arguments of all calls.
func TestGreatestArguments(t *testing.T) {
	r := great()
	full := edited(volumeOf(r), func(v *api.Volume) {
		f := &v.Entries[0].Forms[0]
		f.Rows = append(f.Rows, slices.Repeat([]api.Row{sureRow(place(5, 9, 9), ref(1, 999, 10))}, 100)...)
	})
	x := input{r: r, h: head("sea", api.MarkNoun), x: r.Edition, d: form(20, "zzzzzzzzzfjj", head("sea", api.MarkVerb)), v: full, p: place(5, 9, 9)}
	wantErrors(t, x, api.OK, append(calls, "Count")...)
	rows, open, e := tome.Count(full)
	wantOne(t, "count", [2]int{rows, open}, e, [2]int{700, 100})
	l, e := tome.Twice(r, full)
	wantList(t, "twice", l, e, place(5, 9, 9))
	at, e := tome.Wrong(r, full)
	wantOne(t, "wrong", len(at), e, 100)
	lines, e := tome.Print(r, x.h)
	wantOne(t, "lines", len(lines), e, 21)
}
