package stem_test

import (
	"slices"
	"testing"

	"postil/api"
	"postil/stem"
)

// P4.2: which decision goes first of those that concern a place.
func TestFirstDecision(t *testing.T) {
	base := book("b a a/a a", "a b")
	at := place(0, 1, 0)
	to := head("z", api.MarkNoun)
	for i, x := range []struct {
		l  []api.Decision
		by int
	}{
		{nil, 0},
		{[]api.Decision{form(1, "a", to)}, 1},
		{[]api.Decision{form(1, "b", to)}, 0},
		{[]api.Decision{form(1, "a", to), form(2, "a", to)}, 2},
		{[]api.Decision{form(2, "a", to), form(1, "a", to)}, 2},
		{[]api.Decision{form(2, "b", to), form(1, "a", to)}, 1},
		{[]api.Decision{from(1, "a", place(0, 0, 0), to)}, 1},
		{[]api.Decision{from(1, "a", at, to)}, 1},
		{[]api.Decision{from(1, "a", place(0, 1, 1), to)}, 0},
		{[]api.Decision{from(1, "a", place(1, 0, 0), to)}, 0},
		{[]api.Decision{from(1, "b", place(0, 0, 0), to)}, 0},
		{[]api.Decision{from(1, "b", at, to)}, 0},
		// The last place goes ahead of the greatest Number.
		{[]api.Decision{from(9, "a", place(0, 0, 1), to), from(1, "a", place(0, 0, 2), to)}, 1},
		{[]api.Decision{from(9, "a", place(0, 0, 2), to), from(1, "a", at, to)}, 1},
		{[]api.Decision{from(1, "a", at, to), from(9, "a", place(0, 1, 1), to)}, 1},
		{[]api.Decision{from(9, "a", place(0, 0, 1), to), from(1, "b", place(0, 0, 2), to)}, 9},
		{[]api.Decision{from(3, "a", place(0, 0, 1), to), from(9, "a", place(0, 0, 1), to), from(5, "a", place(0, 0, 1), to)}, 9},
		// From a place on goes ahead of everywhere, and a place ahead of both.
		{[]api.Decision{form(9, "a", to), from(1, "a", place(0, 0, 0), to)}, 1},
		{[]api.Decision{form(9, "a", to), from(10, "a", place(0, 1, 1), to)}, 9},
		{[]api.Decision{only(1, at, to)}, 1},
		{[]api.Decision{only(1, place(0, 1, 1), to), only(2, place(0, 0, 2), to)}, 0},
		{[]api.Decision{only(1, at, to), form(9, "a", to)}, 1},
		{[]api.Decision{only(1, at, to), from(9, "a", at, to)}, 1},
		{[]api.Decision{only(4, at, to), only(6, at, to), only(5, at, to)}, 6},
		// What is void does not count, and what makes it void concerns no place.
		{[]api.Decision{only(4, at, to), only(6, at, to), void(7, 6)}, 4},
		{[]api.Decision{only(6, at, to), from(3, "a", at, to), from(4, "a", at, to), void(7, 6), void(8, 4)}, 3},
		{[]api.Decision{form(1, "a", to), form(2, "a", to), void(3, 2)}, 1},
		{[]api.Decision{form(1, "a", to), void(2, 1)}, 0},
		{[]api.Decision{form(1, "a", to), void(2, 1), void(3, 2)}, 1},
	} {
		by, e := stem.By(base, decided(x.l...), at)
		wantOne(t, i, by, e, x.by)
		want := head("a", api.MarkNone)
		if x.by > 0 {
			want = to
		}
		h, e := stem.HeadOf(base, decided(x.l...), at)
		wantOne(t, i, h, e, want)
	}
}

// P4.2 and P4.3: all answers about heads are as the document tells them, place by place.
func TestHeads(t *testing.T) {
	d := dice(3)
	decided, split := 0, 0
	for range 500 {
		base := d.text()
		x := d.lexicon(base, 20)
		heads := headsOf(base, x)
		wantHeads(t, base, x, heads)
		var homographs []string
		for n, p := range places(base) {
			by, e := stem.By(base, x, p)
			wantOne(t, p, by, e, deciding(base, x, p).Number)
			decided += min(by, 1)
			for m, word := range words(base)[:n] {
				if word == wordAt(base, p) && heads[m] != heads[n] {
					homographs = append(homographs, word)
				}
			}
		}
		slices.Sort(homographs)
		homographs = slices.Compact(homographs)
		l, e := stem.Homographs(base, x)
		wantList(t, x, l, e, homographs...)
		split += len(l)
		wantUnder(t, base, x, heads)
	}
	if decided < 1000 || split < 200 {
		t.Error(decided, split)
	}
}

// wantUnder checks Heads, Under and Forms by the heads of all places.
func wantUnder(t *testing.T, base api.Text, x api.Lexicon, heads []api.Head) {
	t.Helper()
	once := slices.Clone(heads)
	slices.SortFunc(once, func(a, b api.Head) int {
		if a.Stem == b.Stem {
			return int(a.Mark) - int(b.Mark)
		}
		if a.Stem < b.Stem {
			return -1
		}
		return 1
	})
	l, e := stem.Heads(base, x)
	wantList(t, x, l, e, slices.Compact(once)...)
	for _, h := range l {
		var under []api.Place
		var forms []string
		for n, p := range places(base) {
			if heads[n] == h {
				under = append(under, p)
				forms = append(forms, wordAt(base, p))
			}
		}
		slices.Sort(forms)
		p, e := stem.Under(base, x, h)
		wantList(t, h, p, e, under...)
		f, e := stem.Forms(base, x, h)
		wantList(t, h, f, e, slices.Compact(forms)...)
	}
}

// P4.3: heads are in order by their stems, letter by letter, then by their marks.
func TestOrderOfHeads(t *testing.T) {
	base := book("a b c d e f g h i")
	want := []api.Head{head("a", 0), head("a", 1), head("a", 2), head("a", 3), head("ab", 0), head("abc", 3), head("b", 1), head("ba", 0), head("z", 2)}
	for _, order := range [][]int{{0, 1, 2, 3, 4, 5, 6, 7, 8}, {8, 7, 6, 5, 4, 3, 2, 1, 0}, {3, 8, 1, 6, 0, 5, 7, 2, 4}} {
		var x api.Lexicon
		for w, n := range order {
			x.Decisions = append(x.Decisions, only(w+1, place(0, 0, w), want[n]))
		}
		l, e := stem.Heads(base, x)
		wantList(t, order, l, e, want...)
	}
}

// P4.3: forms and homographs are each there once, in order.
func TestOrderOfForms(t *testing.T) {
	base := book("b ab a abc b a/zz ab", "abc b zz a abc")
	x := decided(form(1, "b", head("z", 1)), form(2, "ab", head("z", 1)), form(3, "a", head("z", 1)), form(4, "abc", head("z", 1)), form(5, "zz", head("z", 1)))
	l, e := stem.Forms(base, x, head("z", 1))
	wantList(t, "forms", l, e, "a", "ab", "abc", "b", "zz")
	l, e = stem.Homographs(base, x)
	wantList(t, "no homographs", l, e)
	for _, word := range []string{"b", "a", "zz", "abc"} {
		x.Decisions = append(x.Decisions, from(len(x.Decisions)+1, word, place(1, 0, 0), head("y", 0)))
	}
	l, e = stem.Homographs(base, x)
	wantList(t, "homographs", l, e, "a", "abc", "b", "zz")
	// A mark alone makes heads differ, and a word with one place is no homograph.
	l, e = stem.Homographs(book("a b a"), decided(only(1, place(0, 0, 2), head("a", 1)), only(2, place(0, 0, 1), head("c", 1))))
	wantList(t, "marks", l, e, "a")
	l, e = stem.Homographs(book("a b a"), decided(only(1, place(0, 0, 2), head("a", 0)), only(2, place(0, 0, 0), head("a", 0))))
	wantList(t, "the same", l, e)
}

// P4.6: each place is in Under of its head, and in no other one; all of them together are all places.
func TestEachPlaceIsUnderOneHead(t *testing.T) {
	d := dice(4)
	for range 200 {
		base := d.text()
		x := d.lexicon(base, 20)
		heads, e := stem.Heads(base, x)
		if e != api.OK {
			t.Fatal(e)
		}
		found := map[api.Place]int{}
		for _, h := range heads {
			l, e := stem.Under(base, x, h)
			if len(l) == 0 || e != api.OK {
				t.Errorf("%v: %v, %v", h, l, e)
			}
			for _, p := range l {
				found[p]++
				of, e := stem.HeadOf(base, x, p)
				wantOne(t, p, of, e, h)
			}
		}
		all := places(base)
		for _, p := range all {
			if found[p] != 1 {
				t.Errorf("%v is under %d heads by %v", p, found[p], x)
			}
		}
		if len(found) != len(all) {
			t.Errorf("%v: %v", found, all)
		}
		wantNone(t, base, x, heads)
	}
}

// wantNone checks that heads that are not in a list have no places.
func wantNone(t *testing.T, base api.Text, x api.Lexicon, heads []api.Head) {
	t.Helper()
	for _, s := range []string{"a", "b", "ab", "abb", "bab", "sea"} {
		for mark := range uint8(4) {
			if h := head(s, mark); !slices.Contains(heads, h) {
				wantErrors(t, input{t: base, x: x, h: h}, api.ErrNone, "Under", "Forms")
			}
		}
	}
}

// P4.12: a form that is no homograph has one head wherever it stands; without decisions there are no homographs, and a form's head is its stem.
func TestForms(t *testing.T) {
	d := dice(5)
	for range 200 {
		base := d.text()
		x := d.lexicon(base, 8)
		homographs, e := stem.Homographs(base, x)
		if e != api.OK {
			t.Fatal(e)
		}
		heads := map[string]map[api.Head]bool{}
		for _, p := range places(base) {
			h, _ := stem.HeadOf(base, x, p)
			word := wordAt(base, p)
			if heads[word] == nil {
				heads[word] = map[api.Head]bool{}
			}
			heads[word][h] = true
		}
		for word, l := range heads {
			if slices.Contains(homographs, word) != (len(l) > 1) {
				t.Errorf("%q by %v: %v", word, x, l)
			}
		}
		bare := ruled(x.Rules...)
		none, e := stem.Homographs(base, bare)
		wantList(t, bare, none, e)
		for _, p := range places(base) {
			steps, _ := stem.Steps(base, bare, wordAt(base, p))
			h, e := stem.HeadOf(base, bare, p)
			wantOne(t, p, h, e, head(steps[len(steps)-1], api.MarkNone))
			by, e := stem.By(base, bare, p)
			wantOne(t, p, by, e, 0)
		}
	}
}
