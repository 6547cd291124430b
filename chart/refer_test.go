package chart_test

import (
	"strconv"
	"testing"

	"postil/api"
	"postil/chart"
	"postil/leaf"
)

// P2.2: references of places, and places of references; P2.7: there and back, to the same word.
func TestReferencesLeadBack(t *testing.T) {
	d := dice(3)
	for range 200 {
		base := d.text()
		e := d.sound(base)
		want := refs(base, e)
		for _, p := range places(base) {
			r, err := chart.Refer(base, e, p)
			if there, ok := want[p]; r != there || ok != (err == api.OK) || !ok && err != api.ErrNone {
				t.Errorf("%v: %v has %v, %v, not %v", e, p, r, err, there)
			}
			if err != api.OK {
				continue
			}
			back, err := chart.Lead(base, e, r)
			if back != p || err != api.OK {
				t.Errorf("%v: %v leads to %v, %v, not %v", e, r, back, err, p)
			}
			word, _ := leaf.At(base, p)
			if s, err := leaf.At(base, back); s != word || err != api.OK {
				t.Errorf("%v: at %v stands %s, %v, not %s", e, back, s, err, word)
			}
		}
		back := turned(want)
		for _, r := range grid(5, 21, 4) {
			p, err := chart.Lead(base, e, r)
			if there, ok := back[r]; p != there || ok != (err == api.OK) || !ok && err != api.ErrNone {
				t.Errorf("%v: %v leads to %v, %v, not %v", e, r, p, err, there)
			}
		}
	}
}

// P2.2: stretches in any order, and numbers as great as they may be.
func TestGreatNumbers(t *testing.T) {
	base := shaped("12", "31")
	e := edition(1, stretch(1, 0, 2, 999, 998), stretch(0, 1, 2, 999, 1), stretch(0, 0, 1, 1, 999))
	for p, r := range map[api.Place]api.Ref{place(0, 0, 0): ref(1, 999, 1), place(0, 1, 1): ref(999, 1, 2), place(1, 0, 2): ref(999, 998, 3), place(1, 1, 0): ref(999, 999, 1)} {
		to, err := chart.Refer(base, e, p)
		back, f := chart.Lead(base, e, r)
		if to != r || err != api.OK || back != p || f != api.OK {
			t.Error(p, to, err, r, back, f)
		}
	}
}

// P2.2 and P2.3: ErrPlace, before ErrNone.
func TestPlacesThatAreNone(t *testing.T) {
	base := shaped("12", "31")
	for _, p := range noPlaces(base) {
		for _, e := range []api.Edition{edition(0), edition(1, stretch(0, 0, 2, 1, 1), stretch(1, 0, 2, 2, 1))} {
			wantErrors(t, input{t: base, e: e, p: p}, errorsOf(api.ErrPlace, "Refer", "Near"))
		}
	}
}

// P2.2, P2.3 and P2.5: ErrArg, before ErrNone.
func TestReferencesThatAreNone(t *testing.T) {
	base := shaped("12", "31")
	for _, n := range append([]int{0, 1000}, far...) {
		for _, r := range []api.Ref{ref(n, 1, 1), ref(1, n, 1), ref(1, 1, n), ref(n, n, n)} {
			for _, e := range []api.Edition{edition(0), edition(1, stretch(0, 0, 2, 1, 1))} {
				wantErrors(t, input{t: base, e: e, f: e, r: r}, errorsOf(api.ErrArg, "Lead", "Close", "Turn"))
			}
		}
	}
	e := edition(1, stretch(0, 0, 2, 1, 1))
	for _, r := range []api.Ref{ref(999, 1, 1), ref(1, 999, 1), ref(1, 1, 999), ref(1, 1, 2), ref(1, 3, 1), ref(2, 1, 1), ref(999, 999, 999)} {
		wantErrors(t, input{t: base, e: e, f: e, r: r}, map[string]api.Errno{"Lead": api.ErrNone, "Close": api.OK, "Turn": api.ErrNone})
	}
}

// P2.3: the nearest places, before, behind and on both sides.
func TestNear(t *testing.T) {
	base := shaped("23", "2212", "1")
	e := edition(1, stretch(1, 1, 2, 3, 3), stretch(0, 1, 2, 9, 9), stretch(1, 3, 4, 1, 1))
	for i, x := range []struct {
		p    api.Place
		want []api.Place
	}{
		{place(0, 0, 0), []api.Place{place(0, 1, 0)}},
		{place(0, 0, 1), []api.Place{place(0, 1, 0)}},
		{place(0, 1, 1), []api.Place{place(0, 1, 1)}},
		{place(1, 0, 0), []api.Place{place(0, 1, 2), place(1, 1, 0)}},
		{place(1, 0, 1), []api.Place{place(0, 1, 2), place(1, 1, 0)}},
		{place(1, 1, 0), []api.Place{place(1, 1, 0)}},
		{place(1, 2, 0), []api.Place{place(1, 1, 1), place(1, 3, 0)}},
		{place(2, 0, 0), []api.Place{place(1, 3, 1)}},
	} {
		near, err := chart.Near(base, e, x.p)
		wantList(t, strconv.Itoa(i), near, err, x.want...)
	}
	for _, p := range places(base) {
		wantErrors(t, input{t: base, e: edition(0), p: p, r: ref(1, 1, 1)}, errorsOf(api.ErrNone, "Near", "Close"))
	}
}

// P2.3: the nearest references are those of the edition, not of the base.
func TestClose(t *testing.T) {
	base := shaped("23", "2212", "1")
	e := edition(1, stretch(1, 1, 2, 3, 3), stretch(0, 1, 2, 9, 9), stretch(1, 3, 4, 1, 1), stretch(0, 0, 1, 3, 7))
	for i, x := range []struct {
		r    api.Ref
		want []api.Place
	}{
		{ref(1, 1, 2), []api.Place{place(1, 3, 1)}},
		{ref(1, 1, 3), []api.Place{place(1, 3, 1), place(1, 1, 0)}},
		{ref(2, 500, 500), []api.Place{place(1, 3, 1), place(1, 1, 0)}},
		{ref(3, 2, 999), []api.Place{place(1, 3, 1), place(1, 1, 0)}},
		{ref(3, 3, 1), []api.Place{place(1, 1, 0)}},
		{ref(3, 3, 3), []api.Place{place(1, 1, 1), place(0, 0, 0)}},
		{ref(3, 4, 1), []api.Place{place(1, 1, 1), place(0, 0, 0)}},
		{ref(3, 999, 1), []api.Place{place(0, 0, 1), place(0, 1, 0)}},
		{ref(9, 9, 4), []api.Place{place(0, 1, 2)}},
		{ref(999, 999, 999), []api.Place{place(0, 1, 2)}},
	} {
		near, err := chart.Close(base, e, x.r)
		wantList(t, strconv.Itoa(i), near, err, x.want...)
	}
	near, err := chart.Close(base, edition(1, stretch(1, 0, 1, 2, 2)), ref(2, 1, 999))
	wantList(t, "before all", near, err, place(1, 0, 0))
}

// P2.9: of all places that are there, and of all references, none is nearer.
func TestNoneIsNearer(t *testing.T) {
	d := dice(4)
	for range 150 {
		base := d.text()
		e := d.sound(base)
		l := refs(base, e)
		none := api.OK
		if len(l) == 0 {
			none = api.ErrNone
		}
		for _, p := range places(base) {
			near, err := chart.Near(base, e, p)
			want := around(places(base), p, func(q api.Place) bool { _, ok := l[q]; return ok })
			wantList(t, "Near", near, err-none, want...)
		}
		back, all := turned(l), grid(5, 21, 5)
		for range 40 {
			r := all[d.roll(len(all))]
			var want []api.Place
			for _, x := range around(all, r, func(x api.Ref) bool { _, ok := back[x]; return ok }) {
				want = append(want, back[x])
			}
			near, err := chart.Close(base, e, r)
			wantList(t, "Close", near, err-none, want...)
		}
	}
}
