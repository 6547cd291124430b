package tome_test

import (
	"slices"
	"strings"
	"testing"

	"postil/api"
	"postil/chart"
	"postil/leaf"
	"postil/stem"
	"postil/tome"
)

// P10.1, P10.2: the volume of records, each of its entries, and that in another edition, by the word of the document.
func TestVolumes(t *testing.T) {
	d := dice(2)
	open, gaps, forms := 0, 0, 0
	for range 400 {
		r := d.records(5, 20)
		want := volumeOf(r)
		v, e := tome.Make(r)
		wantVolume(t, r, v, e, want)
		for _, x := range want.Entries {
			of, e := tome.Of(r, x.Head)
			wantEntry(t, r, of, e, x)
			forms = max(forms, len(x.Forms))
		}
		other := d.edition(r.Text)
		in, e := tome.In(r, other)
		wantVolume(t, []any{r, other}, in, e, volumeOf(with(r, func(r *api.Records) { r.Edition = other })))
		for _, s := range spots(want) {
			if s.row.Sure == api.KnownOpen {
				open++
			}
			if s.row.Ref == ref(0, 0, 0) {
				gaps++
			}
		}
	}
	if open < 300 || gaps < 300 || forms < 4 {
		t.Error(open, gaps, forms)
	}
}

// P10.1: entries are in order by their Stems, then their Marks, forms by their words, and rows by their places.
func TestOrderOfVolumes(t *testing.T) {
	r := bare("b a ab/a b", "ab b")
	r.Text.Chapters[1].Id = 0
	v, e := tome.Make(r)
	wantVolume(t, "rules only", v, e, volume(
		entry(head("a", 0), formOf("a", sureRow(place(0, 0, 1), api.Ref{}), sureRow(place(0, 1, 0), api.Ref{}))),
		entry(head("ab", 0), formOf("ab", sureRow(place(0, 0, 2), api.Ref{}), sureRow(place(1, 0, 0), api.Ref{}))),
		entry(head("b", 0), formOf("b", sureRow(place(0, 0, 0), api.Ref{}), sureRow(place(0, 1, 1), api.Ref{}), sureRow(place(1, 0, 1), api.Ref{}))),
	))
	r.Lexicon.Decisions = []api.Decision{only(9, place(0, 1, 0), head("b", 3)), form(5, "ab", head("b", 1)), form(7, "a", head("b", 1)), only(8, place(1, 0, 1), head("b", 1))}
	v, e = tome.Make(r)
	wantVolume(t, "decisions", v, e, volume(
		entry(head("b", 0), formOf("b", sureRow(place(0, 0, 0), api.Ref{}), sureRow(place(0, 1, 1), api.Ref{}))),
		entry(head("b", 1), formOf("a", sureRow(place(0, 0, 1), api.Ref{})), formOf("ab", sureRow(place(0, 0, 2), api.Ref{}), sureRow(place(1, 0, 0), api.Ref{})), formOf("b", sureRow(place(1, 0, 1), api.Ref{}))),
		entry(head("b", 3), formOf("a", sureRow(place(0, 1, 0), api.Ref{}))),
	))
}

// P10.1: a place is in doubt if one of several copies leaves its word out, or has another one; not if one puts a word in.
func TestDoubtInVolumes(t *testing.T) {
	r := bare("a b c d")
	r.Copies = []api.Copy{copyOf(1, reading(api.ReadPut, place(0, 0, 0), "x"), reading(api.ReadOmit, place(0, 0, 1), "")), copyOf(2), copyOf(1, reading(api.ReadOther, place(0, 0, 3), "a"), reading(api.ReadPut, place(0, 0, 4), "y"))}
	v, e := tome.Make(r)
	for n, want := range []uint8{api.KnownYes, api.KnownOpen, api.KnownYes, api.KnownOpen} {
		wantOne(t, n, v.Entries[n].Forms[0].Rows[0], e, row(place(0, 0, n), api.Ref{}, want))
	}
	rows, open, e := tome.Count(v)
	wantOne(t, "count", [2]int{rows, open}, e, [2]int{4, 2})
	// A word that is put in ahead of its own place, where it is left out, is none of the base.
	r.Copies = []api.Copy{copyOf(1, reading(api.ReadPut, place(0, 0, 0), "a"), reading(api.ReadOmit, place(0, 0, 0), ""))}
	v, e = tome.Make(r)
	wantOne(t, "put in", v.Entries[0].Forms[0].Rows[0], e, openRow(place(0, 0, 0), api.Ref{}))
}

// P10.7: each occurrence of each word is in the volume of records once, under its head, and what is in doubt is named.
func TestEachOccurrenceIsThereOnce(t *testing.T) {
	d := dice(3)
	for range 300 {
		r := d.records(5, 20)
		v, e := tome.Make(r)
		lacks, f := tome.Lacks(r, v)
		wantList(t, r, lacks, f)
		again, f := tome.Twice(r, v)
		wantList(t, r, again, f)
		bad, f := tome.Wrong(r, v)
		wantList(t, r, bad, f)
		words, _ := leaf.Words(r.Text)
		doubt, _ := leaf.Doubt(r.Text, r.Copies)
		rows, open, f := tome.Count(v)
		wantOne(t, r, [2]int{rows, open}, f, [2]int{words, len(doubt)})
		wantOne(t, r, len(spots(v)), e, words)
		for _, s := range spots(v) {
			h, _ := stem.HeadOf(r.Text, r.Lexicon, s.row.At)
			wantOne(t, s, s.head, e, h)
			wantOne(t, s, s.word, e, wordAt(r.Text, s.row.At))
			wantOne(t, s, s.row.Sure == api.KnownOpen, e, slices.Contains(doubt, s.row.At))
		}
	}
}

// P10.8: a reference leads to its place, and back, in any edition, and a row without one is in a gap.
func TestReferencesLeadToTheirPlaces(t *testing.T) {
	d := dice(4)
	for range 300 {
		r := d.records(1, 10)
		x := d.edition(r.Text)
		own, e := tome.Make(r)
		in, f := tome.In(r, x)
		wantReferences(t, r.Text, r.Edition, own, e)
		wantReferences(t, r.Text, x, in, f)
	}
}

// wantReferences checks the references of all rows of a volume.
func wantReferences(t *testing.T, base api.Text, x api.Edition, v api.Volume, e api.Errno) {
	t.Helper()
	gaps, _ := chart.Gaps(base, x)
	for _, s := range spots(v) {
		at, back := chart.Lead(base, x, s.row.Ref)
		if slices.Contains(gaps, place(s.row.At.Chapter, s.row.At.Line, 0)) {
			wantOne(t, s, s.row.Ref, e, api.Ref{})
			continue
		}
		wantOne(t, s, at, back, s.row.At)
		to, back := chart.Refer(base, x, at)
		wantOne(t, s, to, back, s.row.Ref)
	}
}

// P10.11: in another edition a volume has the same rows, with the references to which its own ones lead there.
func TestAnotherEdition(t *testing.T) {
	d := dice(5)
	led, lost := 0, 0
	for range 300 {
		r := d.records(3, 10)
		x := d.edition(r.Text)
		own, e := tome.Make(r)
		in, f := tome.In(r, x)
		wantOne(t, r, len(spots(in)), max(e, f), len(spots(own)))
		for n, s := range spots(in) {
			before := spots(own)[n]
			to, e := chart.Turn(r.Text, r.Edition, x, before.row.Ref)
			if before.row.Ref == ref(0, 0, 0) {
				// Nothing leads from there: the place itself has the reference.
				to, _ = chart.Refer(r.Text, x, s.row.At)
			} else if e == api.OK {
				led++
			} else {
				lost++
			}
			before.row.Ref = to
			wantOne(t, []any{r, x}, s, f, before)
		}
		back, e := tome.In(with(r, func(r *api.Records) { r.Edition = x }), r.Edition)
		wantVolume(t, "back", back, e, own)
	}
	if led < 500 || lost < 100 {
		t.Error(led, lost)
	}
}

// P10.12: with a copy more no place is sure that was in doubt, and all else stays; the order of copies, and of decisions, does not matter.
func TestCopiesAndTheirOrder(t *testing.T) {
	d := dice(6)
	opened := 0
	for range 300 {
		r := d.records(4, 20)
		before, e := tome.Make(r)
		more := with(r, func(r *api.Records) { r.Copies = append(r.Copies, d.copy(r.Text)) })
		after, f := tome.Make(more)
		wantOne(t, r, len(spots(after)), max(e, f), len(spots(before)))
		for n, s := range spots(after) {
			was := spots(before)[n]
			if was.row.Sure == api.KnownYes && s.row.Sure == api.KnownOpen {
				opened++
				was.row.Sure = api.KnownOpen
			}
			wantOne(t, more, s, f, was)
		}
		other := with(more, func(r *api.Records) {
			r.Copies = shuffled(&d, r.Copies)
			r.Lexicon.Decisions = shuffled(&d, r.Lexicon.Decisions)
			r.Edition.Stretches = shuffled(&d, r.Edition.Stretches)
		})
		v, e := tome.Make(other)
		wantVolume(t, other, v, e, after)
		for _, x := range after.Entries {
			lines, e := tome.Print(other, x.Head)
			wantList(t, other, lines, e, linesOf(more, x)...)
		}
	}
	if opened < 200 {
		t.Error(opened)
	}
}

// The greatest records there are.
func TestGreatestVolume(t *testing.T) {
	r := great()
	v, e := tome.Make(r)
	wantVolume(t, "great", v, e, volumeOf(r))
	rows, open, e := tome.Count(v)
	wantOne(t, "count", [2]int{rows, open}, e, [2]int{600, 100})
	wantOne(t, "entries", len(v.Entries), e, 591)
	x, e := tome.Of(r, head("sea", api.MarkNoun))
	wantOne(t, "forms", len(x.Forms), e, 10)
	wantOne(t, "the last form", x.Forms[9].Word, e, strings.Repeat("z", 9)+"fjj")
	wantOne(t, "the last row", x.Forms[9].Rows[0], e, sureRow(place(5, 9, 9), ref(1, 999, 10)))
}
