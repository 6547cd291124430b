package stem_test

import (
	"reflect"
	"slices"
	"testing"

	"postil/api"
	"postil/leaf"
	"postil/stem"
)

// P4.1: which decisions stand, from the greatest Number down.
func TestStanding(t *testing.T) {
	a := head("a", 0)
	for i, x := range []struct {
		l    []api.Decision
		want []int
	}{
		{nil, nil},
		{[]api.Decision{form(3, "a", a), form(1, "a", a), form(2, "b", a)}, []int{1, 2, 3}},
		{[]api.Decision{form(1, "a", a), void(2, 1)}, []int{2}},
		{[]api.Decision{void(2, 1), form(1, "a", a)}, []int{2}},
		{[]api.Decision{form(1, "a", a), void(2, 1), void(3, 2)}, []int{1, 3}},
		{[]api.Decision{void(4, 3), void(2, 1), form(1, "a", a), void(3, 2)}, []int{2, 4}},
		{[]api.Decision{void(5, 4), void(4, 3), void(2, 1), form(1, "a", a), void(3, 2)}, []int{1, 3, 5}},
		// Void twice is void still, as long as one of both stands.
		{[]api.Decision{form(1, "a", a), void(2, 1), void(3, 1)}, []int{2, 3}},
		{[]api.Decision{form(1, "a", a), void(2, 1), void(3, 1), void(4, 2)}, []int{3, 4}},
		{[]api.Decision{form(1, "a", a), void(2, 1), void(3, 1), void(4, 2), void(5, 3)}, []int{1, 4, 5}},
		// A void one may be of a Number that no decision has.
		{[]api.Decision{form(1, "a", a), void(9, 2), void(999, 998)}, []int{1, 9, 999}},
		{[]api.Decision{only(7, place(0, 0, 0), a), from(6, "a", place(0, 0, 0), a), form(5, "a", a), void(8, 6)}, []int{5, 7, 8}},
	} {
		l, e := stem.Standing(sample(), decided(x.l...))
		wantList(t, i, l, e, x.want...)
	}
	d := dice(6)
	for range 1000 {
		base := d.text()
		x := d.lexicon(base, 20)
		l, e := stem.Standing(base, x)
		wantList(t, x, l, e, numbersOf(x, func(d api.Decision) bool { return stands(x, d) })...)
	}
}

// P4.4: decisions without each of which, alone, nothing changes.
func TestIdle(t *testing.T) {
	a, z := head("a", 0), head("z", 1)
	base := book("b a", "a c")
	for i, x := range []struct {
		l    []api.Decision
		want []int
	}{
		{nil, nil},
		{[]api.Decision{form(1, "a", z)}, nil},
		{[]api.Decision{form(1, "a", a)}, []int{1}},
		{[]api.Decision{form(1, "x", z)}, []int{1}},
		// Each one of two that say the same, but not both.
		{[]api.Decision{form(2, "a", z), form(1, "a", z)}, []int{1, 2}},
		{[]api.Decision{form(2, "a", z), form(1, "a", a)}, []int{1}},
		{[]api.Decision{form(2, "a", a), form(1, "a", z)}, []int{1}},
		{[]api.Decision{from(2, "a", place(0, 0, 0), z), form(1, "a", a)}, []int{1}},
		{[]api.Decision{from(2, "a", place(0, 0, 0), z), from(1, "a", place(0, 0, 1), z)}, []int{1, 2}},
		{[]api.Decision{from(2, "a", place(0, 0, 0), z), from(1, "a", place(1, 0, 0), z)}, []int{1}},
		{[]api.Decision{from(2, "b", place(0, 0, 1), z)}, []int{2}},
		{[]api.Decision{only(2, place(0, 0, 1), z), form(1, "a", z)}, []int{2}},
		{[]api.Decision{only(3, place(0, 0, 1), z), only(2, place(1, 0, 0), z), form(1, "a", z)}, []int{1, 2, 3}},
		// What is void is idle; what makes it void is not, if it matters.
		{[]api.Decision{form(1, "a", z), void(2, 1)}, []int{1}},
		{[]api.Decision{form(1, "a", a), void(2, 1)}, []int{1, 2}},
		{[]api.Decision{form(1, "a", z), void(2, 1), void(3, 2)}, []int{2}},
		{[]api.Decision{form(1, "a", z), void(3, 1), void(2, 1)}, []int{1, 2, 3}},
		{[]api.Decision{void(3, 1)}, []int{3}},
	} {
		l, e := stem.Idle(base, decided(x.l...))
		wantList(t, i, l, e, x.want...)
	}
	d := dice(7)
	for range 300 {
		base := d.text()
		x := d.lexicon(base, 20)
		l, e := stem.Idle(base, x)
		wantList(t, x, l, e, numbersOf(x, func(d api.Decision) bool {
			return slices.Equal(headsOf(base, without(x, d.Number)), headsOf(base, x))
		})...)
	}
}

// more is a lexicon of up to 19 decisions, and a decision with a Number that it has not.
func (d *dice) more(base api.Text) (api.Lexicon, api.Decision) {
	x := d.lexicon(base, 19)
	for {
		number := 1 + d.roll(26)
		if !slices.ContainsFunc(x.Decisions, func(d api.Decision) bool { return d.Number == number }) {
			return x, d.decision(base, number)
		}
	}
}

// P4.5: a lexicon with a decision more has the same rules, and all decisions by their Numbers, and Changes has the places whose heads are others then.
func TestAdd(t *testing.T) {
	d := dice(8)
	changed := 0
	for range 500 {
		base := d.text()
		x, one := d.more(base)
		want := with(x, one)
		slices.SortFunc(want.Decisions, func(a, b api.Decision) int { return a.Number - b.Number })
		more, e := stem.Add(base, x, one)
		wantList(t, x, more.Rules, e, x.Rules...)
		wantList(t, x, more.Decisions, e, want.Decisions...)
		changes, e := stem.Changes(base, x, one)
		wantList(t, []any{x, one}, changes, e, differing(base, headsOf(base, x), headsOf(base, want))...)
		changed += len(changes)
	}
	if changed < 200 {
		t.Error(changed)
	}
}

// P4.7: a decision changes only what it concerns, which is under its To then; one that makes others void only what those concern.
func TestDecisionsChangeWhatTheyConcern(t *testing.T) {
	d := dice(9)
	for range 500 {
		base := d.text()
		x, one := d.more(base)
		more := with(x, one)
		changes, e := stem.Changes(base, x, one)
		if e != api.OK {
			t.Fatal(x, one, e)
		}
		for _, p := range changes {
			h, e := stem.HeadOf(base, more, p)
			if one.Kind == api.DecideVoid {
				if !concerns(base, behind(x, one), p) || e != api.OK {
					t.Errorf("%v changes %v by %v, %v", one, p, x, e)
				}
				continue
			}
			if !concerns(base, one, p) || h != one.To || e != api.OK {
				t.Errorf("%v changes %v to %v by %v, %v", one, p, h, x, e)
			}
		}
	}
}

// behind is the decision that one makes void, or that stands again by it, if that is void, and so on; a zero one if there is none.
func behind(x api.Lexicon, one api.Decision) api.Decision {
	for one.Kind == api.DecideVoid {
		n := slices.IndexFunc(x.Decisions, func(d api.Decision) bool { return d.Number == one.Of })
		if n < 0 {
			return api.Decision{}
		}
		one = x.Decisions[n]
	}
	return one
}

// P4.8: in whatever order decisions come, all answers are the same.
func TestOrderOfDecisions(t *testing.T) {
	d := dice(10)
	for range 200 {
		base := d.text()
		x, one := d.more(base)
		in := input{t: base, x: x, word: d.word(), p: places(base)[d.roll(len(places(base)))], h: d.head(), d: one}
		want := in.all()
		for range 3 {
			in.x = ruled(x.Rules...)
			for _, n := range d.shuffled(len(x.Decisions)) {
				in.x.Decisions = append(in.x.Decisions, x.Decisions[n-1])
			}
			for i, o := range in.all() {
				if !reflect.DeepEqual(o, want[i]) && !(isZero(o.result) && isZero(want[i].result)) || o.e != want[i].e {
					t.Errorf("%v: %v, not %v", in, o, want[i])
				}
			}
		}
	}
}

// P4.10: a decision of a place has it, whatever else is decided before it.
func TestDecisionOfPlace(t *testing.T) {
	d := dice(11)
	for range 300 {
		base := d.text()
		x := d.lexicon(base, 19)
		last := only(26+d.roll(900), places(base)[d.roll(len(places(base)))], d.head())
		more, e := stem.Add(base, x, last)
		if e != api.OK {
			t.Fatal(e)
		}
		h, e := stem.HeadOf(base, more, last.At)
		wantOne(t, x, h, e, last.To)
		by, e := stem.By(base, more, last.At)
		wantOne(t, x, by, e, last.Number)
	}
}

// P4.10: the same Form, decided again with a greater Number, makes the former decision idle.
func TestDecidedAgain(t *testing.T) {
	d := dice(12)
	for range 300 {
		base := d.text()
		x, former := d.more(base)
		if former.Kind == api.DecideVoid || len(x.Decisions) == 19 {
			continue
		}
		again := former
		again.Number, again.To = 27, d.head()
		idle, e := stem.Idle(base, with(x, again, former))
		if !slices.Contains(idle, former.Number) || e != api.OK {
			t.Errorf("%v is not idle by %v and %v: %v, %v", former, again, x, idle, e)
		}
	}
}

// P4.11: what is void is as if it were not there; void once more, it stands again.
func TestVoid(t *testing.T) {
	d := dice(13)
	for range 300 {
		base := d.text()
		x := d.lexicon(base, 18)
		if len(x.Decisions) == 0 {
			continue
		}
		one := x.Decisions[d.roll(len(x.Decisions))]
		heads, gone := headsOf(base, x), headsOf(base, without(x, one.Number))
		off := with(x, void(30, one.Number))
		wantHeads(t, base, off, gone)
		wantHeads(t, base, with(off, void(31, 30)), heads)
		standing, e := stem.Standing(base, off)
		if slices.Contains(standing, one.Number) || !slices.Contains(standing, 30) || e != api.OK {
			t.Errorf("%v of %v: %v, %v", one, x, standing, e)
		}
		before, e := stem.Standing(base, x)
		wantList(t, x, before, e, numbersOf(x, func(d api.Decision) bool { return stands(x, d) })...)
		standing, e = stem.Standing(base, with(off, void(31, 30)))
		wantList(t, x, standing, e, append(before, 31)...)
	}
}

// P4.13: in a copy words that no decision concerns are under the same heads as in the base.
func TestHeadsInCopies(t *testing.T) {
	d := dice(14)
	same := 0
	for range 300 {
		base := d.text()
		read := d.read(t, base)
		x := d.lexicon(base, 4)
		if stem.Check(read, x) != api.OK {
			continue
		}
		heads := free(base, x)
		for word, h := range free(read, x) {
			if want, ok := heads[word]; ok {
				wantOne(t, word, h, api.OK, want)
				same++
			}
		}
	}
	if same < 100 {
		t.Error(same)
	}
}

// read is the text of a copy of a base.
func (d *dice) read(t *testing.T, base api.Text) api.Text {
	t.Helper()
	var c api.Copy
	for _, p := range places(base) {
		switch d.roll(5) {
		case 0:
			c.Readings = append(c.Readings, api.Reading{At: p, Kind: api.ReadPut, Word: d.word()})
		case 1:
			if p.Word > 0 {
				c.Readings = append(c.Readings, api.Reading{At: p, Kind: api.ReadOmit})
			}
		}
	}
	c.Readings = c.Readings[:min(len(c.Readings), api.MaxReadings)]
	read, e := leaf.Read(base, c)
	if e != api.OK {
		t.Fatal(base, c, e)
	}
	return read
}

// free is the heads of words in places that no decision concerns.
func free(base api.Text, x api.Lexicon) map[string]api.Head {
	heads := map[string]api.Head{}
	for _, p := range places(base) {
		concerned := slices.ContainsFunc(x.Decisions, func(d api.Decision) bool { return concerns(base, d, p) })
		if h, e := stem.HeadOf(base, x, p); !concerned && e == api.OK {
			heads[wordAt(base, p)] = h
		}
	}
	return heads
}
