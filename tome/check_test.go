package tome_test

import (
	"slices"
	"strings"
	"testing"

	"postil/api"
	"postil/tome"
)

// fault is an error, and changes of the sample that lead to it.
type fault struct {
	e       api.Errno
	changes []func(r *api.Records)
}

func texts(l ...api.Text) []func(r *api.Records) {
	var changes []func(r *api.Records)
	for _, t := range l {
		changes = append(changes, func(r *api.Records) { r.Text = t })
	}
	return changes
}

func rules(l ...api.Rule) []func(r *api.Records) {
	var changes []func(r *api.Records)
	for _, x := range l {
		changes = append(changes, func(r *api.Records) { r.Lexicon.Rules[1] = x })
	}
	return changes
}

func decisions(l ...api.Decision) []func(r *api.Records) {
	var changes []func(r *api.Records)
	for _, d := range l {
		changes = append(changes, func(r *api.Records) { r.Lexicon.Decisions[1] = d })
	}
	return changes
}

func editions(l ...api.Edition) []func(r *api.Records) {
	var changes []func(r *api.Records)
	for _, x := range l {
		changes = append(changes, func(r *api.Records) { r.Edition = x })
	}
	return changes
}

func cuts(l ...api.Cut) []func(r *api.Records) {
	var changes []func(r *api.Records)
	for _, c := range l {
		changes = append(changes, func(r *api.Records) { r.Cut = c })
	}
	return changes
}

func copies(l ...api.Copy) []func(r *api.Records) {
	var changes []func(r *api.Records)
	for _, c := range l {
		changes = append(changes, func(r *api.Records) { r.Copies = []api.Copy{copyOf(1), c, copyOf(2)} })
	}
	return changes
}

// badEditions is editions that are not valid, badMaps those that are, but not sound.
func badEditions() []api.Edition {
	l := []api.Edition{edition(5, slices.Repeat([]api.Stretch{stretch(0, 0, 1, 1, 1)}, 13)...), edition(5, stretch(0, 0, 2, 1, 999)), edition(5, stretch(0, 1, 1, 1, 1)), edition(5, stretch(0, 0, 3, 1, 1)), edition(5, stretch(2, 0, 1, 1, 1)), edition(5, stretch(0, 0, 1, 0, 1)), edition(5, stretch(0, 0, 1, 1000, 1)), edition(5, stretch(0, 0, 1, 1, 0))}
	for _, n := range far {
		l = append(l, edition(n), edition(5, stretch(n, 0, 1, 1, 1)), edition(5, stretch(0, n, 1, 1, 1)), edition(5, stretch(0, 0, n, 1, 1)), edition(5, stretch(0, 0, 1, n, 1)), edition(5, stretch(0, 0, 1, 1, n)))
	}
	return l
}

func badMaps() []api.Edition {
	return []api.Edition{edition(5, stretch(0, 0, 1, 1, 1), stretch(0, 0, 1, 2, 1)), edition(5, stretch(0, 0, 2, 1, 1), stretch(1, 0, 1, 1, 2)), edition(5, stretch(1, 0, 1, 3, 1), stretch(0, 0, 1, 7, 1), stretch(0, 0, 2, 8, 1))}
}

// faults is all errors of records, in their order, with changes that lead to each of them.
func faults() []fault {
	same := sample().Text
	same.Chapters[1].Id = 7
	text := texts(api.Text{}, same, book("the Sea"), book("a b c d e f g h i j k"), book("a/a/a/a/a/a/a/a/a/a/a"), book("a", "a", "a", "a", "a", "a", "a"), book("abcdefghijklm"))
	lexicon := append(rules(api.Rule{Cut: "s", Put: "s", Least: 1}, api.Rule{Put: "s", Least: 1}, api.Rule{Cut: "s", Least: 13}),
		decisions(form(1, "sea", head("sea", 0)), form(1000, "sea", head("sea", 0)), form(2, "Sea", head("sea", 0)), form(2, "sea", head("sea", 4)), only(2, place(0, 0, 4), head("sea", 0)), api.Decision{Number: 2, Kind: 5}, api.Decision{Number: 2, Kind: api.DecideVoid, Of: 2})...)
	cut := cuts(api.Cut{}, api.Cut{Width: 11, Side: 1}, api.Cut{Width: 81, Side: 1}, api.Cut{Width: 14}, api.Cut{Width: 14, Side: 4}, api.Cut{Width: 14, Side: 255})
	copied := copies(copyOf(3, reading(api.ReadOther, place(0, 0, 3), "old")), copyOf(3, reading(4, place(0, 0, 3), "cold")), copyOf(3, reading(api.ReadOmit, place(0, 0, 3), "cold")), copyOf(3, reading(api.ReadOmit, place(0, 0, 1), ""), reading(api.ReadOmit, place(0, 0, 0), "")), copyOf(3, slices.Repeat([]api.Reading{reading(api.ReadPut, place(0, 0, 0), "sea")}, 7)...))
	for _, n := range far {
		lexicon = append(lexicon, append(decisions(form(n, "sea", head("sea", 0)), only(2, place(0, n, 0), head("sea", 0))), rules(api.Rule{Cut: "s", Least: n})...)...)
		cut = append(cut, cuts(api.Cut{Width: n, Side: 1})...)
		copied = append(copied, copies(copyOf(n), copyOf(3, reading(api.ReadOmit, place(n, 0, 0), "")), copyOf(3, reading(api.ReadOmit, place(0, 0, n), "")))...)
	}
	many := func(r *api.Records) { r.Copies = slices.Repeat([]api.Copy{copyOf(1)}, 6) }
	manyBad := func(r *api.Records) { r.Copies = slices.Repeat([]api.Copy{copyOf(-1)}, 1000) }
	return []fault{{api.ErrText, text}, {api.ErrLexicon, lexicon}, {api.ErrEdition, editions(badEditions()...)}, {api.ErrBad, editions(badMaps()...)}, {api.ErrCut, cut}, {api.ErrMany, []func(r *api.Records){many, manyBad}}, {api.ErrCopy, copied}}
}

// P10.1: all errors of records, in all calls with them; and whatever else there is.
func TestErrorsOfRecords(t *testing.T) {
	spoiled := []input{
		{},
		{h: head("sea", 1), x: six(), d: form(4, "sea", head("see", 2)), v: made(), p: place(1, 0, 2)},
		{h: head("nowhere", 0), x: badMaps()[0], d: form(3, "sea", head("see", 2)), v: volume(slices.Repeat([]api.Entry{{}}, 701)...), p: place(9, 9, 9)},
		{h: head("", 9), x: badEditions()[0], d: api.Decision{}, v: volume(entry(head("", 9), formOf("", slices.Repeat([]api.Row{{}}, 701)...))), p: place(-1, 0, 0)},
	}
	for _, f := range faults() {
		for _, change := range f.changes {
			r := with(sample(), change)
			for _, x := range spoiled {
				x.r = r
				wantErrors(t, x, f.e, calls...)
			}
		}
	}
}

// P10.1: of several errors of records the first one is returned.
func TestOrderOfErrorsOfRecords(t *testing.T) {
	l := faults()
	for i, first := range l {
		for _, second := range l[i+1:] {
			for n, change := range first.changes {
				r := with(sample(), func(r *api.Records) {
					second.changes[n%len(second.changes)](r)
					change(r)
				})
				wantErrors(t, input{r: r}, first.e, calls...)
			}
		}
	}
	// Copies that are not valid, and too many of them, with a cut that is not valid.
	r := with(sample(), func(r *api.Records) { r.Copies, r.Cut.Width = slices.Repeat([]api.Copy{copyOf(-1)}, 6), 11 })
	wantErrors(t, input{r: r}, api.ErrCut, calls...)
	r.Cut.Width = 12
	wantErrors(t, input{r: r}, api.ErrMany, calls...)
	r.Copies = r.Copies[:5]
	wantErrors(t, input{r: r}, api.ErrCopy, calls...)
}

// P10.1: records that are valid, at the ends of what is allowed.
func TestValidRecords(t *testing.T) {
	l := []api.Records{sample(), great(), bare("a"), bare("a", "a", "a", "a", "a", "a")}
	d := dice(1)
	for range 200 {
		l = append(l, d.records(5, 20))
	}
	for _, r := range l {
		if e := tome.Check(r); e != api.OK {
			t.Errorf("%+v: %v", r, e)
		}
	}
	for _, change := range []func(r *api.Records){
		func(r *api.Records) { r.Copies = nil },
		func(r *api.Records) { r.Copies = slices.Repeat(r.Copies, 5) },
		func(r *api.Records) { r.Lexicon = api.Lexicon{} },
		func(r *api.Records) { r.Edition = api.Edition{} },
		func(r *api.Records) { r.Edition.Id = 9999 },
		func(r *api.Records) { r.Edition = edition(0, stretch(0, 0, 2, 999, 998)) },
		func(r *api.Records) { r.Cut = api.Cut{Width: 12, Side: 1} },
		func(r *api.Records) { r.Cut = api.Cut{Width: 80, Side: 2} },
		func(r *api.Records) { r.Copies[0] = copyOf(9999) },
	} {
		if e := tome.Check(with(sample(), change)); e != api.OK {
			t.Errorf("%+v: %v", with(sample(), change), e)
		}
	}
}

// spread is a volume of so many entries, forms and rows: no more of them lie together than need be.
func spread(entries, forms, rows int) api.Volume {
	v := volume(make([]api.Entry, entries)...)
	for n := range forms {
		x := &v.Entries[n%entries]
		x.Forms = append(x.Forms, api.Form{})
	}
	for n := range rows {
		x := &v.Entries[n%min(entries, forms)]
		f := &x.Forms[n/entries%len(x.Forms)]
		f.Rows = append(f.Rows, api.Row{})
	}
	return v
}

// badVolumes is volumes that are not valid, goodVolumes those that just are, whatever stands in them.
func badVolumes() []api.Volume {
	rows := slices.Repeat([]api.Row{{}}, 100000)
	forms := slices.Repeat([]api.Form{formOf("", rows...)}, 100000)
	return []api.Volume{spread(701, 0, 0), spread(701, 700, 700), spread(1, 701, 0), spread(2, 701, 0), spread(700, 701, 700), spread(1, 1, 701), spread(1, 2, 701), spread(2, 2, 701), spread(700, 700, 701), spread(3, 5, 1000),
		volume(entry(head("sea", 0), forms...)), volume(entry(head("sea", 0), formOf("sea", rows...))), volume(slices.Repeat([]api.Entry{entry(head("sea", 0), forms...)}, 100000)...)}
}

func goodVolumes() []api.Volume {
	return []api.Volume{{}, spread(700, 0, 0), spread(1, 0, 0), spread(1, 700, 0), spread(1, 1, 700), spread(700, 700, 700), spread(2, 3, 700), volume(entry(head(strings.Repeat("Z", 300), 255), formOf("two words", row(place(-1, far[0], 10000), ref(-1, 0, far[1]), 255))))}
}

// P10.1, P10.5: ErrVolume comes behind the errors of records, and ahead of ErrPlace and ErrNone.
func TestErrorsOfVolumes(t *testing.T) {
	for _, v := range badVolumes() {
		for _, p := range []api.Place{place(0, 0, 0), place(9, 9, 9)} {
			wantErrors(t, input{r: sample(), v: v, p: p}, api.ErrVolume, append(ofVolumes, "Count")...)
		}
	}
	for _, v := range goodVolumes() {
		wantErrors(t, input{r: sample(), v: v}, api.OK, "Count", "Lacks", "Twice", "Wrong")
		wantErrors(t, input{r: sample(), v: v, p: place(0, 0, 4)}, api.ErrPlace, "Find")
	}
	// Count has no records, and no errors of these.
	wantErrors(t, input{v: made()}, api.OK, "Count")
	wantErrors(t, input{v: spread(1, 1, 701)}, api.ErrVolume, "Count")
}

// P10.5: ErrPlace of what is no place of the text, also if it is in the volume, and ErrNone of places that are in no row.
func TestErrorsOfFind(t *testing.T) {
	for _, p := range noPlaces(sample().Text) {
		for _, v := range []api.Volume{{}, made(), volume(entry(head("sea", 0), formOf("sea", sureRow(p, ref(1, 1, 1)))))} {
			wantErrors(t, input{r: sample(), v: v, p: p}, api.ErrPlace, "Find")
		}
	}
	for _, p := range places(sample().Text) {
		wantErrors(t, input{r: sample(), p: p}, api.ErrNone, "Find")
		wantErrors(t, input{r: sample(), v: made(), p: p}, api.OK, "Find")
	}
	wantErrors(t, input{r: sample(), v: spread(700, 700, 700), p: place(0, 0, 1)}, api.ErrNone, "Find")
}

// P10.2, P10.4: ErrArg of what is no head, ErrNone of heads that no place has.
func TestErrorsOfHeads(t *testing.T) {
	for _, s := range noWords {
		wantErrors(t, input{r: sample(), h: head(s, 0)}, api.ErrArg, ofHeads...)
	}
	for _, mark := range []uint8{4, 5, 128, 255} {
		wantErrors(t, input{r: sample(), h: head("sea", mark)}, api.ErrArg, ofHeads...)
	}
	for _, h := range []api.Head{head("sea", 0), head("sea", 2), head("old", 0), head("age", 0), head("the", 1), head("nowhere", 0), head("abcdefghijkl", 3)} {
		wantErrors(t, input{r: sample(), h: h}, api.ErrNone, ofHeads...)
	}
	for _, x := range made().Entries {
		wantErrors(t, input{r: sample(), h: x.Head}, api.OK, ofHeads...)
	}
}

// P10.2: errors of the other edition.
func TestErrorsOfIn(t *testing.T) {
	for _, x := range badEditions() {
		wantErrors(t, input{r: sample(), x: x}, api.ErrEdition, "In")
	}
	for _, x := range badMaps() {
		wantErrors(t, input{r: sample(), x: x}, api.ErrBad, "In")
	}
	for _, x := range []api.Edition{{}, six(), sample().Edition, edition(9999), edition(0, stretch(0, 0, 2, 999, 998))} {
		wantErrors(t, input{r: sample(), x: x}, api.OK, "In")
	}
}

// P10.3: ErrFull, then ErrDecision.
func TestErrorsOfChanged(t *testing.T) {
	full := with(sample(), func(r *api.Records) {
		for len(r.Lexicon.Decisions) < api.MaxDecisions {
			r.Lexicon.Decisions = append(r.Lexicon.Decisions, form(100+len(r.Lexicon.Decisions), "old", head("old", 0)))
		}
	})
	less := with(full, func(r *api.Records) { r.Lexicon.Decisions = r.Lexicon.Decisions[1:] })
	noun := head("sea", 1)
	bad := []api.Decision{{}, form(3, "sea", noun), form(0, "sea", noun), form(1000, "sea", noun), form(50, "Sea", noun), form(50, "sea", head("sea", 4)), form(50, "sea", head("", 0)), {Number: 50, Kind: 5, Form: "sea", To: noun}, {Number: 50, Kind: api.DecideVoid, Of: 50}}
	for _, n := range far {
		bad = append(bad, form(n, "sea", noun), only(50, place(n, 0, 0), noun), only(50, place(0, 0, n), noun), api.Decision{Number: 50, Kind: api.DecideVoid, Of: n})
	}
	for _, d := range bad {
		wantErrors(t, input{r: sample(), d: d}, api.ErrDecision, "Changed")
		wantErrors(t, input{r: less, d: d}, api.ErrDecision, "Changed")
		wantErrors(t, input{r: full, d: d}, api.ErrFull, "Changed")
	}
	for _, d := range []api.Decision{form(50, "sea", noun), form(999, "nowhere", noun), only(50, place(0, 0, 0), noun), {Number: 50, Kind: api.DecideVoid, Of: 49}} {
		wantErrors(t, input{r: sample(), d: d}, api.OK, "Changed")
		wantErrors(t, input{r: less, d: d}, api.OK, "Changed")
		wantErrors(t, input{r: full, d: d}, api.ErrFull, "Changed")
	}
}
