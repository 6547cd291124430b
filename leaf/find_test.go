package leaf_test

import (
	"slices"
	"strings"
	"testing"

	"postil/api"
	"postil/leaf"
)

// P1.5: which copy is found, of several with the fewest readings.
func TestFind(t *testing.T) {
	for i, x := range []struct {
		a, b string
		want []api.Reading
	}{
		{"a b c", "a b c", nil},
		{"a b c", "a c", []api.Reading{omit(0, 0, 1)}},
		{"a c", "a b c", []api.Reading{put(0, 0, 1, "b")}},
		{"a", "b", []api.Reading{other(0, 0, 0, "b")}},
		// Another word goes ahead of one left out, and one put in.
		{"a b", "b a", []api.Reading{other(0, 0, 0, "b"), other(0, 0, 1, "a")}},
		{"a b", "x y z", []api.Reading{other(0, 0, 0, "x"), other(0, 0, 1, "y"), put(0, 0, 2, "z")}},
		{"a b c", "x y", []api.Reading{other(0, 0, 0, "x"), other(0, 0, 1, "y"), omit(0, 0, 2)}},
		// It does not where it needs more.
		{"a b c d", "b c d e", []api.Reading{omit(0, 0, 0), put(0, 0, 4, "e")}},
		{"b c d", "a b c d", []api.Reading{put(0, 0, 0, "a")}},
		// One left out goes ahead of one put in.
		{"a b a b", "b a b a", []api.Reading{omit(0, 0, 0), put(0, 0, 4, "a")}},
		// Words that are the same are kept as soon as they come.
		{"a", "a a a", []api.Reading{put(0, 0, 1, "a"), put(0, 0, 1, "a")}},
		{"a a a", "a", []api.Reading{omit(0, 0, 1), omit(0, 0, 2)}},
		{"a b a", "a", []api.Reading{omit(0, 0, 1), omit(0, 0, 2)}},
		// Each line is for itself.
		{"a b/c/d e", "b/c d/e", []api.Reading{omit(0, 0, 0), put(0, 1, 1, "d"), omit(0, 2, 0)}},
	} {
		found, e := leaf.Find(book(x.a), book(x.b), 4)
		if !same(found.Readings, x.want, e) || found.Id != 4 {
			t.Error(i, found, e)
		}
	}
}

// fewest is the fewest readings that make one line of another one: all ways are tried.
func fewest(a, b []string) int {
	if len(a) == 0 || len(b) == 0 {
		return len(a) + len(b)
	}
	kept := 1
	if a[0] == b[0] {
		kept = 0
	}
	return min(kept+fewest(a[1:], b[1:]), 1+fewest(a[1:], b), 1+fewest(a, b[1:]))
}

// found is the readings that P1.5 describes for a line, word by word.
func found(a, b []string, at api.Place) []api.Reading {
	if len(a) == 0 && len(b) == 0 {
		return nil
	}
	next := at
	next.Word++
	if len(a) == 0 {
		return append([]api.Reading{{At: at, Kind: api.ReadPut, Word: b[0]}}, found(a, b[1:], at)...)
	}
	if len(b) == 0 {
		return append([]api.Reading{{At: at, Kind: api.ReadOmit}}, found(a[1:], b, next)...)
	}
	other, omit, put := fewest(a[1:], b[1:]), fewest(a[1:], b), fewest(a, b[1:])
	switch {
	case a[0] == b[0]:
		return found(a[1:], b[1:], next)
	case other <= omit && other <= put:
		return append([]api.Reading{{At: at, Kind: api.ReadOther, Word: b[0]}}, found(a[1:], b[1:], next)...)
	case omit <= put:
		return append([]api.Reading{{At: at, Kind: api.ReadOmit}}, found(a[1:], b, next)...)
	}
	return append([]api.Reading{{At: at, Kind: api.ReadPut, Word: b[0]}}, found(a, b[1:], at)...)
}

// P1.5 and P1.6, of texts of all shapes; P1.9: the copy that is found has the text that was looked for.
func TestFindWordByWord(t *testing.T) {
	d := dice(4)
	for range 300 {
		base := d.text(5)
		u := d.alike(base, 5)
		var want []api.Reading
		n := 0
		for i := range base.Chapters {
			for l, line := range base.Chapters[i].Lines {
				want = append(want, found(line, u.Chapters[i].Lines[l], place(i, l, 0))...)
				n += fewest(line, u.Chapters[i].Lines[l])
			}
		}
		if apart, e := leaf.Apart(base, u); apart != n || apart != len(want) || e != api.OK {
			t.Errorf("%s and %s are %d apart, %v, not %d", words(base), words(u), apart, e, n)
		}
		c, e := leaf.Find(base, u, 7)
		if len(want) > api.MaxReadings {
			if e != api.ErrMany {
				t.Errorf("%d readings: %v", len(want), e)
			}
			continue
		}
		if !same(c.Readings, want, e) {
			t.Errorf("%s and %s: %v, %v, not %v", words(base), words(u), c, e, want)
		}
		if read, e := leaf.Read(base, c); words(read) != words(u) || e != api.OK {
			t.Errorf("%v is %s, %v, not %s", c, words(read), e, words(u))
		}
	}
}

// single is all readings of a text by themselves, with some words.
func single(base api.Text) []api.Reading {
	var l []api.Reading
	for p := range allEnds(base) {
		l = append(l, omit(p.Chapter, p.Line, p.Word))
		for _, s := range []string{"a", "b", "c"} {
			l = append(l, put(p.Chapter, p.Line, p.Word, s), other(p.Chapter, p.Line, p.Word, s))
		}
	}
	return l
}

// reached is the fewest readings of all copies of up to three readings, by the words of their texts.
func reached(base api.Text) map[string]int {
	least := map[string]int{words(base): 0}
	copies := []api.Copy{{}}
	for n := 1; n <= 3; n++ {
		var longer []api.Copy
		for _, c := range copies {
			for _, r := range single(base) {
				longer = append(longer, api.Copy{Readings: append(slices.Clone(c.Readings), r)})
			}
		}
		for _, c := range longer {
			if read, e := leaf.Read(base, c); e == api.OK {
				if _, ok := least[words(read)]; !ok {
					least[words(read)] = n
				}
			}
		}
		copies = longer
	}
	return least
}

// P1.6 and P1.9: no copy with the text that was looked for has fewer readings: all copies of up to three readings are tried.
func TestNoCopyHasFewerReadings(t *testing.T) {
	for _, base := range []api.Text{book("a b"), book("a b a"), book("a", "a")} {
		for s, n := range reached(base) {
			u := book(strings.Split(s, "|")...)
			c, e := leaf.Find(base, u, 0)
			apart, f := leaf.Apart(base, u)
			if len(c.Readings) != n || e != api.OK || apart != n || f != api.OK {
				t.Errorf("%s of %s: %v, %v; %d, %v; not %d", s, words(base), c, e, apart, f, n)
			}
		}
	}
}

// P1.9: the base has no reading of itself. P1.10: texts are as far apart one way as the other, no way over a third one is shorter, and texts that are not apart are the same.
func TestHowFarTextsAreApart(t *testing.T) {
	d := dice(5)
	for range 200 {
		a := d.text(3)
		b, c := d.alike(a, 2), d.alike(a, 2)
		apart := func(t, u api.Text) int { n, _ := leaf.Apart(t, u); return n }
		if apart(a, b) != apart(b, a) || apart(a, c) > apart(a, b)+apart(b, c) || (apart(a, b) == 0) != (words(a) == words(b)) {
			t.Errorf("%s, %s and %s: %d, %d; %d, %d", words(a), words(b), words(c), apart(a, b), apart(b, a), apart(a, c), apart(b, c))
		}
		self, e := leaf.Find(a, a, 3)
		if n, f := leaf.Apart(a, a); n != 0 || f != api.OK || len(self.Readings) != 0 || self.Id != 3 || e != api.OK {
			t.Errorf("%s of itself: %v, %v; %d, %v", words(a), self, e, n, f)
		}
	}
}

// P1.5 and P1.6: ErrBad, ErrArg and ErrMany, in this order.
func TestErrorsOfFind(t *testing.T) {
	ten := "a a a a a a a a a a/"
	base, others := book(ten+ten+"a", "a"), book(strings.ReplaceAll(ten+ten+"a", "a", "b"), "a")
	turned, renamed := book("a", ten+ten+"a"), book(ten+ten+"a", "a")
	renamed.Chapters[1].Id = 9
	for _, x := range []struct {
		u          api.Text
		id         int
		find, away api.Errno
	}{
		{base, 0, api.OK, api.OK},
		{base, api.MaxId, api.OK, api.OK},
		{others, 1, api.ErrMany, api.OK},
		{others, -1, api.ErrArg, api.OK},
		{turned, -1, api.ErrBad, api.ErrBad},
		{renamed, -1, api.ErrBad, api.ErrBad},
		{book(ten+ten+"a", "a/a"), -1, api.ErrBad, api.ErrBad},
		{book(ten+ten+"a/a", "a"), 1, api.ErrBad, api.ErrBad},
		{book(ten + ten + "a"), -1, api.ErrBad, api.ErrBad},
		{book(ten+ten+"a", "a", "a"), -1, api.ErrBad, api.ErrBad},
		{book("b"), -1, api.ErrBad, api.ErrBad},
	} {
		wantErrors(t, input{t: base, u: x.u, n: x.id}, map[string]api.Errno{"Find": x.find, "Apart": x.away})
	}
	for _, id := range far {
		wantErrors(t, input{t: base, u: base, n: id}, map[string]api.Errno{"Find": api.ErrArg})
	}
}

// P1.5 and P1.6: as many readings as a copy may have, one more, and as many as there can be.
func TestManyReadings(t *testing.T) {
	ten := "a a a a a a a a a a/"
	base := book(ten+ten+"a", "a")
	if c, e := leaf.Find(base, book(strings.ReplaceAll(ten+ten, "a", "b")+"a", "a"), 1); len(c.Readings) != api.MaxReadings || e != api.OK {
		t.Error(c, e)
	}
	more := book(strings.ReplaceAll(ten+ten+"a", "a", "b"), "a")
	wantErrors(t, input{t: base, u: more, n: 1}, map[string]api.Errno{"Find": api.ErrMany})
	if n, e := leaf.Apart(base, more); n != api.MaxReadings+1 || e != api.OK {
		t.Error(n, e)
	}
	long := book(slices.Repeat([]string{strings.Repeat(ten, 9) + strings.TrimSuffix(ten, "/")}, 6)...)
	short := book(slices.Repeat([]string{strings.Repeat("b/", 9) + "b"}, 6)...)
	if n, e := leaf.Apart(long, short); n != 600 || e != api.OK {
		t.Error(n, e)
	}
}
