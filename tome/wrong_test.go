package tome_test

import (
	"slices"
	"testing"

	"postil/api"
	"postil/tome"
)

// P10.5: how many rows a volume has, and how many of them are open, whatever stands in it.
func TestCount(t *testing.T) {
	for _, x := range []struct {
		v          api.Volume
		rows, open int
	}{
		{api.Volume{}, 0, 0},
		{spread(700, 700, 0), 0, 0},
		{spread(1, 1, 700), 700, 0},
		{spread(700, 700, 700), 700, 0},
		{made(), 10, 2},
		{volume(entry(head("", 255), formOf("", row(place(-1, 0, 0), ref(0, 0, 0), 0), row(place(-1, 0, 0), ref(0, 0, 0), 1), row(place(-1, 0, 0), ref(0, 0, 0), 1), row(place(0, 0, 0), ref(0, 0, 0), 2), row(place(0, 0, 0), ref(0, 0, 0), 3), row(place(0, 0, 0), ref(0, 0, 0), 255))), entry(head("a", 0)), entry(head("b", 0), formOf("b"), formOf("b", row(place(0, 0, 0), ref(1, 1, 1), 1)))), 7, 3},
		{volume(entry(head("sea", 1), formOf("sea", slices.Repeat([]api.Row{openRow(place(0, 0, 0), ref(1, 1, 1))}, 700)...))), 700, 700},
	} {
		rows, open, e := tome.Count(x.v)
		wantOne(t, x.v, [2]int{rows, open}, e, [2]int{x.rows, x.open})
	}
}

// P10.5: the first row of a volume that has a place.
func TestFind(t *testing.T) {
	r := sample()
	v := volume(
		entry(head("z", 9)),
		entry(head("sea", 1), formOf("a"), formOf("b", sureRow(place(9, 9, 9), ref(0, 0, 0)), row(place(1, 0, 0), ref(7, 7, 7), 77))),
		entry(head("sea", 1), formOf("a", sureRow(place(0, 0, 0), ref(1, 1, 1)), sureRow(place(1, 0, 0), ref(0, 0, 0)), sureRow(place(0, 0, 0), ref(1, 1, 1)))),
		entry(head("a", 0), formOf("the", sureRow(place(1, 0, 2), ref(0, 0, 0)))),
	)
	for _, x := range []struct {
		p    api.Place
		want [3]int
	}{{place(1, 0, 0), [3]int{1, 1, 1}}, {place(0, 0, 0), [3]int{2, 0, 0}}, {place(1, 0, 2), [3]int{3, 0, 0}}} {
		i, j, k, e := tome.Find(r, v, x.p)
		wantOne(t, x.p, [3]int{i, j, k}, e, x.want)
	}
	wantErrors(t, input{r: r, v: v, p: place(9, 9, 9)}, api.ErrPlace, "Find")
	wantErrors(t, input{r: r, v: v, p: place(0, 0, 1)}, api.ErrNone, "Find")
}

// P10.6: places that a volume lacks, or has twice, are told once each, in the order of the text, and those of the text only.
func TestLacksAndTwice(t *testing.T) {
	r := sample()
	for _, x := range []struct {
		v            api.Volume
		lacks, twice []api.Place
	}{
		{api.Volume{}, places(r.Text), nil},
		{made(), nil, nil},
		{spread(700, 700, 0), places(r.Text), nil},
		// All rows are of the same place.
		{spread(700, 700, 700), places(r.Text)[1:], places(r.Text)[:1]},
		{volume(slices.Concat(made().Entries, made().Entries)...), nil, places(r.Text)},
		{volume(slices.Concat(made().Entries, made().Entries[4:6], made().Entries[4:6])...), nil, []api.Place{place(0, 0, 1), place(0, 1, 2), place(1, 0, 0), place(1, 0, 2)}},
		{volume(made().Entries[4:]...), []api.Place{place(0, 0, 2), place(0, 0, 3), place(0, 1, 0), place(1, 0, 1)}, nil},
		// A row has its place whatever else it has, and wherever it stands.
		{volume(entry(head("", 9), formOf("x", row(place(1, 0, 2), ref(-1, 0, 0), 9)), formOf("x", sureRow(place(0, 1, 0), ref(0, 0, 0)), sureRow(place(1, 0, 2), ref(0, 0, 0)))), entry(head("", 9), formOf("x", sureRow(place(0, 1, 0), ref(0, 0, 0))))), []api.Place{place(0, 0, 0), place(0, 0, 1), place(0, 0, 2), place(0, 0, 3), place(0, 1, 1), place(0, 1, 2), place(1, 0, 0), place(1, 0, 1)}, []api.Place{place(0, 1, 0), place(1, 0, 2)}},
		// What is no place of the text is not told.
		{volume(append(made().Entries, entry(head("sea", 1), formOf("sea", sureRow(place(2, 0, 0), ref(1, 1, 1)), sureRow(place(2, 0, 0), ref(1, 1, 1)), sureRow(place(0, 0, 4), ref(1, 1, 5)), sureRow(place(0, 0, 4), ref(1, 1, 5)))))...), nil, nil},
	} {
		l, e := tome.Lacks(r, x.v)
		wantList(t, x.v, l, e, x.lacks...)
		l, e = tome.Twice(r, x.v)
		wantList(t, x.v, l, e, x.twice...)
	}
}

// P10.6: a row is not right if any of what it has is another one, or it stands elsewhere.
func TestWrong(t *testing.T) {
	r := sample()
	want := func(v api.Volume, want ...[3]int) {
		t.Helper()
		l, e := tome.Wrong(r, v)
		wantList(t, v, l, e, want...)
	}
	want(api.Volume{})
	want(made())
	for i, x := range made().Entries {
		for j, f := range x.Forms {
			for k := range f.Rows {
				for _, change := range []func(row *api.Row){
					func(row *api.Row) { row.At.Chapter++ },
					func(row *api.Row) { row.At.Line-- },
					func(row *api.Row) { row.At.Word++ },
					func(row *api.Row) { row.Ref.Chapter++ },
					func(row *api.Row) { row.Ref.Line++ },
					func(row *api.Row) { row.Ref.Word-- },
					func(row *api.Row) { row.Sure = 3 - row.Sure },
					func(row *api.Row) { row.Sure = 0 },
					func(row *api.Row) { row.Sure += 128 },
				} {
					want(edited(made(), func(v *api.Volume) { change(&v.Entries[i].Forms[j].Rows[k]) }), [3]int{i, j, k})
				}
			}
		}
	}
	for _, h := range []api.Head{head("sea", 0), head("sea", 2), head("se", 1), head("the", 0), head("", 0), head("sea", 255)} {
		want(edited(made(), func(v *api.Volume) { v.Entries[4].Head = h }), [3]int{4, 0, 0}, [3]int{4, 0, 1}, [3]int{4, 0, 2})
	}
	for _, word := range []string{"", "old", "seas", "Sea"} {
		want(edited(made(), func(v *api.Volume) { v.Entries[5].Forms[0].Word = word }), [3]int{5, 0, 0})
	}
	// The order does not matter, nor how often a row is there, nor entries and forms without rows.
	v := edited(made(), func(v *api.Volume) {
		slices.Reverse(v.Entries)
		slices.Reverse(v.Entries[0].Forms[0].Rows)
		v.Entries = append(v.Entries, made().Entries[4], entry(head("x", 99)), entry(head("sea", 1), formOf("y"), formOf("sea", made().Entries[4].Forms[0].Rows[2])))
	})
	want(v)
	v.Entries[9].Forms[1].Word = "y"
	v.Entries[0].Forms[0].Rows[1].Sure = 1
	want(v, [3]int{0, 0, 1}, [3]int{9, 1, 0})
	// The same row under another head of its word, and another word of its head.
	want(volume(entry(head("see", 2), formOf("sea", made().Entries[4].Forms[0].Rows...)), entry(head("sea", 1), formOf("see", made().Entries[4].Forms[0].Rows[0]))), [3]int{0, 0, 0}, [3]int{0, 0, 1}, [3]int{0, 0, 2}, [3]int{1, 0, 0})
}

// P10.6: what is wrong depends on all of the records.
func TestWrongInOtherRecords(t *testing.T) {
	all := [][3]int{{0, 0, 0}, {1, 0, 0}, {2, 0, 0}, {3, 0, 0}, {4, 0, 0}, {4, 0, 1}, {4, 0, 2}, {5, 0, 0}, {6, 0, 0}, {6, 0, 1}}
	for i, x := range []struct {
		change func(r *api.Records)
		want   [][3]int
	}{
		{func(r *api.Records) { r.Cut.Width = 80 }, nil},
		{func(r *api.Records) { r.Edition.Id = 6 }, nil},
		{func(r *api.Records) { r.Edition = six() }, all},
		{func(r *api.Records) { r.Edition = api.Edition{} }, [][3]int{{0, 0, 0}, {2, 0, 0}, {3, 0, 0}, {4, 0, 0}, {4, 0, 1}, {6, 0, 0}, {6, 0, 1}}},
		{func(r *api.Records) { r.Copies = nil }, [][3]int{{3, 0, 0}, {6, 0, 1}}},
		{func(r *api.Records) { r.Lexicon = api.Lexicon{} }, [][3]int{{0, 0, 0}, {3, 0, 0}, {4, 0, 0}, {4, 0, 1}, {4, 0, 2}, {5, 0, 0}}},
		{func(r *api.Records) { r.Text.Chapters[0].Lines[0][0] = "a" }, [][3]int{{6, 0, 0}}},
	} {
		l, e := tome.Wrong(with(sample(), x.change), made())
		wantList(t, i, l, e, x.want...)
	}
}

// P10.5, P10.6: what is told of any volume, by the word of the document.
func TestTornVolumes(t *testing.T) {
	d := dice(11)
	lacks, again, bad := 0, 0, 0
	for range 600 {
		r := d.records(3, 10)
		v := d.torn(r)
		l, e := tome.Lacks(r, v)
		wantList(t, []any{r, v}, l, e, lacking(r.Text, v)...)
		lacks += len(l)
		l, e = tome.Twice(r, v)
		wantList(t, []any{r, v}, l, e, twice(r.Text, v)...)
		again += len(l)
		at, e := tome.Wrong(r, v)
		wantList(t, []any{r, v}, at, e, wrong(r, v)...)
		bad += len(at)
		for _, p := range places(r.Text) {
			i, j, k, e := tome.Find(r, v, p)
			first, is := found(v, p)
			if is {
				wantOne(t, []any{r, v, p}, [3]int{i, j, k}, e, first)
			} else {
				wantOne(t, []any{r, v, p}, e, api.OK, api.ErrNone)
			}
		}
	}
	if lacks < 200 || again < 500 || bad < 500 {
		t.Error(lacks, again, bad)
	}
}

// P10.10: if rows are taken out of the volume, just their places are lacking; if one is put in twice, just this place is there twice.
func TestRowsTakenOutAndPutIn(t *testing.T) {
	d := dice(12)
	for range 200 {
		r := d.records(3, 20)
		v, _ := tome.Make(r)
		var out []api.Place
		short := edited(v, func(v *api.Volume) {
			for i, x := range v.Entries {
				for j, f := range x.Forms {
					v.Entries[i].Forms[j].Rows = slices.DeleteFunc(f.Rows, func(row api.Row) bool {
						goes := d.roll(4) == 0
						if goes {
							out = append(out, row.At)
						}
						return goes
					})
				}
			}
		})
		l, e := tome.Lacks(r, short)
		wantList(t, short, l, e, slices.DeleteFunc(places(r.Text), func(p api.Place) bool { return !slices.Contains(out, p) })...)
		l, e = tome.Twice(r, short)
		wantList(t, short, l, e)
		at, e := tome.Wrong(r, short)
		wantList(t, short, at, e)
		s := one(&d, spots(v)...)
		double := edited(v, func(v *api.Volume) {
			f := &v.Entries[s.at[0]].Forms[s.at[1]]
			f.Rows = append(f.Rows, s.row)
		})
		l, e = tome.Twice(r, double)
		wantList(t, double, l, e, s.row.At)
		l, e = tome.Lacks(r, double)
		wantList(t, double, l, e)
		at, e = tome.Wrong(r, double)
		wantList(t, double, at, e)
	}
}
