package sheaf_test

import (
	"math"
	"slices"
	"strings"
	"testing"

	"postil/api"
	"postil/sheaf"
)

// wantShelf checks that a shelf is valid, and which rows its generations have.
func wantShelf(t *testing.T, s api.Shelf, want ...[]string) {
	t.Helper()
	if e := sheaf.CheckShelf(s); e != api.OK {
		t.Errorf("%.2000v: %v", s, e)
	}
	for n, rows := range want {
		l, e := sheaf.Back(s, n)
		wantList(t, []any{s, n}, l, e, rows...)
	}
	wantNoGeneration(t, s, len(want))
}

// wantNoGeneration checks that a valid shelf has so many generations, and no other one.
func wantNoGeneration(t *testing.T, s api.Shelf, generations int) {
	t.Helper()
	for _, n := range append(far, generations, generations+1, api.MaxGenerations, math.MinInt+generations) {
		if l, e := sheaf.Back(s, n); len(l) != 0 || e != api.ErrArg {
			t.Errorf("%.2000v, %d: %q, %v", s, n, l, e)
		}
		if p, e := sheaf.Prune(s, n); len(p.First)+len(p.Changes) != 0 || e != api.ErrArg {
			t.Errorf("%.2000v, %d: %v, %v", s, n, p, e)
		}
	}
}

// abc is a shelf with generations of abc, axc, c, cc and cc.
func abc() api.Shelf {
	return shelf(letters("abc"), hunk(1, 1, "x"), hunk(0, 2), hunk(1, 0, "c"), hunk(2, 0))
}

// P11.7: shelves that are valid.
func TestValidShelves(t *testing.T) {
	wantShelf(t, api.Shelf{}, nil)
	wantShelf(t, shelf(nil, hunk(0, 0)), nil, nil)
	wantShelf(t, shelf(nil, hunk(0, 0, "a"), hunk(1, 0, "b"), hunk(0, 2)), nil, rows("a"), rows("a", "b"), nil)
	wantShelf(t, abc(), letters("abc"), letters("axc"), letters("c"), letters("cc"), letters("cc"))
	// A hunk need not be the smallest one.
	wantShelf(t, shelf(letters("abc"), hunk(0, 3, "a", "b", "c"), hunk(1, 1, "b")), letters("abc"), letters("abc"), letters("abc"))
	wantShelf(t, shelf(rows(strings.Repeat("~", 160)), hunk(1, 0, strings.Repeat(" ", 160))), rows(strings.Repeat("~", 160)), rows(strings.Repeat("~", 160), strings.Repeat(" ", 160)))
	// As many generations, and as many rows, as there may be.
	all := [][]string{numbered(200)}
	s := shelf(numbered(200))
	for range 11 {
		s.Changes = append(s.Changes, hunk(200, 0))
		all = append(all, numbered(200))
	}
	wantShelf(t, s, all...)
	wantShelf(t, shelf(numbered(200), hunk(0, 200, numbered(200)...), hunk(199, 1, "a"), hunk(0, 1)), numbered(200), numbered(200), append(numbered(199), "a"), append(numbered(199), "a")[1:])
	wantShelf(t, shelf(numbered(199), hunk(0, 0, "a"), hunk(7, 3, "a", "b", "c")), numbered(199), append(rows("a"), numbered(199)...), slices.Replace(append(rows("a"), numbered(199)...), 7, 10, "a", "b", "c"))
	wantShelf(t, shelf(nil, hunk(0, 0, numbered(200)...), hunk(0, 200)), nil, numbered(200), nil)
}

// badShelves is shelves that are not valid.
func badShelves() []api.Shelf {
	l := []api.Shelf{
		shelf(nil, slices.Repeat([]api.Hunk{hunk(0, 0)}, 12)...),
		shelf(nil, slices.Repeat([]api.Hunk{hunk(0, 0)}, 1000000)...),
		shelf(numbered(201)),
		shelf(numbered(201), hunk(0, 1)),
		shelf(slices.Repeat(rows("a"), 1000000)),
		shelf(numbered(200), hunk(0, 0, "a")),
		shelf(numbered(200), hunk(200, 0, "a"), hunk(0, 1)),
		shelf(numbered(200), hunk(100, 2, "a", "b", "c")),
		shelf(nil, hunk(0, 0, numbered(201)...)),
		shelf(nil, hunk(0, 0, slices.Repeat(rows("a"), 1000000)...)),
		shelf(numbered(200), hunk(0, 200, numbered(201)...)),
		shelf(letters("abc"), hunk(4, 0)),
		shelf(letters("abc"), hunk(4, 0, "a")),
		shelf(letters("abc"), hunk(3, 1)),
		shelf(letters("abc"), hunk(2, 2, "a", "b")),
		shelf(letters("abc"), hunk(0, 4)),
		shelf(nil, hunk(1, 0)),
		shelf(nil, hunk(0, 1)),
		shelf(nil, hunk(0, 1, "a")),
		// These rows were there, but are not any more, or not yet.
		shelf(letters("abc"), hunk(0, 2), hunk(2, 0)),
		shelf(letters("abc"), hunk(0, 2), hunk(1, 1)),
		shelf(letters("abc"), hunk(3, 1), hunk(0, 0, "a")),
	}
	for _, n := range far {
		for _, other := range []int{0, 1, 3} {
			l = append(l, shelf(letters("abc"), hunk(n, other)), shelf(letters("abc"), hunk(other, n)), shelf(letters("abc"), hunk(other, n, "a")))
		}
		for _, m := range far {
			l = append(l, shelf(letters("abc"), hunk(n, m)))
		}
		// Their sum is that of rows that are there, but overflows, or they are not.
		l = append(l, shelf(letters("abc"), hunk(n, -n)), shelf(letters("abc"), hunk(-n, n)), shelf(letters("abc"), hunk(n, 1-n)))
	}
	for _, row := range noRows {
		l = append(l, shelf(rows(row)), shelf(rows("a", row)), shelf(rows("a", row), hunk(1, 1)), shelf(letters("abc"), hunk(1, 1, row)), shelf(letters("abc"), hunk(1, 1, "a", row, "b")), shelf(letters("abc"), hunk(1, 0, row), hunk(1, 1)))
	}
	// Hunks that are wrong behind others.
	for _, s := range slices.Clone(l[2:]) {
		if len(s.First) == 3 && s.First[0] == "a" {
			l = append(l, shelf(letters("bc"), append([]api.Hunk{hunk(0, 0, "a")}, s.Changes...)...), shelf(s.First, append(slices.Clone(s.Changes), hunk(0, 0))...))
		}
	}
	return l
}

// P11.7: ErrShelf of shelves that are not valid, ahead of all other errors.
func TestErrorsOfShelves(t *testing.T) {
	for _, s := range badShelves() {
		if e := sheaf.CheckShelf(s); e != api.ErrShelf {
			t.Errorf("%.1000v: %v", s, e)
		}
		for _, l := range [][]string{nil, {"a"}, {""}, numbered(201)} {
			if x, e := sheaf.Save(s, l); len(x.First)+len(x.Changes) != 0 || e != api.ErrShelf {
				t.Errorf("%.1000v: %v, %v", s, x, e)
			}
		}
		for _, n := range append(far, 0, 1) {
			if l, e := sheaf.Back(s, n); len(l) != 0 || e != api.ErrShelf {
				t.Errorf("%.1000v, %d: %v, %v", s, n, l, e)
			}
			if x, e := sheaf.Prune(s, n); len(x.First)+len(x.Changes) != 0 || e != api.ErrShelf {
				t.Errorf("%.1000v, %d: %v, %v", s, n, x, e)
			}
		}
	}
}

// P11.7: ErrRows of what is saved, then ErrFull.
func TestErrorsOfSave(t *testing.T) {
	full := shelf(nil, slices.Repeat([]api.Hunk{hunk(0, 0)}, 11)...)
	free := shelf(nil, slices.Repeat([]api.Hunk{hunk(0, 0)}, 10)...)
	for _, l := range [][]string{numbered(201), append(numbered(200), "\n"), slices.Repeat(rows("a"), 1000000)} {
		for _, s := range []api.Shelf{full, free, {}, abc()} {
			if x, e := sheaf.Save(s, l); len(x.First)+len(x.Changes) != 0 || e != api.ErrRows {
				t.Errorf("%v: %v, %v", s, x, e)
			}
		}
	}
	for _, row := range noRows {
		for _, s := range []api.Shelf{full, free, {}, abc()} {
			if x, e := sheaf.Save(s, rows("a", row)); len(x.First)+len(x.Changes) != 0 || e != api.ErrRows {
				t.Errorf("%v: %v, %v", s, x, e)
			}
		}
	}
	for _, l := range [][]string{nil, {"a"}, numbered(200)} {
		if x, e := sheaf.Save(full, l); len(x.First)+len(x.Changes) != 0 || e != api.ErrFull {
			t.Errorf("%q: %v, %v", l, x, e)
		}
		x, e := sheaf.Save(free, l)
		wantAny(t, l, x, e, shelf(nil, append(slices.Clone(free.Changes), hunk(0, 0, l...))...))
		if x, e := sheaf.Save(x, l); len(x.First)+len(x.Changes) != 0 || e != api.ErrFull {
			t.Errorf("%q: %v, %v", l, x, e)
		}
	}
	// There is room again without the first generation.
	x, e := sheaf.Prune(full, 1)
	wantAny(t, "prune", x, e, free)
	x, e = sheaf.Save(x, nil)
	wantAny(t, "save", x, e, full)
}

// P11.7: the hunk to what is saved, from the rows of the last generation.
func TestSave(t *testing.T) {
	for _, x := range []struct {
		from, to string
		want     api.Hunk
	}{
		{"", "", hunk(0, 0)},
		{"abc", "abc", hunk(3, 0)},
		{"", "abc", hunk(0, 0, "a", "b", "c")},
		{"abc", "", hunk(0, 3)},
		{"abc", "axc", hunk(1, 1, "x")},
		{"abc", "xyz", hunk(0, 3, "x", "y", "z")},
		{"abc", "abcd", hunk(3, 0, "d")},
		{"abc", "dabc", hunk(0, 0, "d")},
		{"abc", "ab", hunk(2, 1)},
		{"abc", "bc", hunk(0, 1)},
		{"abcd", "axyd", hunk(1, 2, "x", "y")},
		{"abcd", "xbcy", hunk(0, 4, "x", "b", "c", "y")},
		// What is in common at the beginning goes first, and no row counts on both sides.
		{"aa", "a", hunk(1, 1)},
		{"a", "aa", hunk(1, 0, "a")},
		{"aaaa", "aa", hunk(2, 2)},
		{"aba", "a", hunk(1, 2)},
		{"a", "aba", hunk(1, 0, "b", "a")},
		{"abab", "ab", hunk(2, 2)},
		{"aab", "ab", hunk(1, 1)},
		{"ab", "aab", hunk(1, 0, "a")},
		{"abcab", "abab", hunk(2, 1)},
		{"abba", "aba", hunk(2, 1)},
	} {
		s, e := sheaf.Save(shelf(letters(x.from)), letters(x.to))
		wantAny(t, x, s, e, shelf(letters(x.from), x.want))
		// The last generation counts, not the first one; and what was there before stays.
		s, e = sheaf.Save(shelf(rows("z"), hunk(1, 0), hunk(0, 1, letters(x.from)...)), letters(x.to))
		wantAny(t, x, s, e, shelf(rows("z"), hunk(1, 0), hunk(0, 1, letters(x.from)...), x.want))
	}
	long := append(numbered(200)[:199], "a")
	s, e := sheaf.Save(shelf(numbered(200)), long)
	wantAny(t, "long", s, e, shelf(numbered(200), hunk(199, 1, "a")))
}

// P11.7, P11.12: what is saved, pruned, and comes back.
func TestPrune(t *testing.T) {
	s := abc()
	all := generations(s)
	for n := range all {
		x, e := sheaf.Prune(s, n)
		wantAny(t, n, x, e, shelf(all[n], s.Changes[n:]...))
		wantShelf(t, x, all[n:]...)
	}
}

// allRows is all lists of up to so many rows, each of one of some letters.
func allRows(most int, from string) [][]string {
	l := [][]string{nil}
	for begin := 0; most > 0; most-- {
		end := len(l)
		for _, rows := range l[begin:end] {
			for _, c := range letters(from) {
				l = append(l, append(slices.Clone(rows), c))
			}
		}
		begin = end
	}
	return l
}

// P11.13: no other hunk that makes the same rows drops and puts fewer together.
func TestSmallestHunks(t *testing.T) {
	l := allRows(5, "ab")
	for _, from := range l {
		for _, to := range l {
			s, e := sheaf.Save(shelf(from), to)
			wantAny(t, []any{from, to}, s, e, shelf(from, hunkOf(from, to)))
			wantShelf(t, s, from, to)
			h := s.Changes[0]
			for at := range len(from) + 1 {
				for drop := range len(from) - at + 1 {
					// Of the other rows so many have to be put.
					put := len(to) - (len(from) - drop)
					if put < 0 || !slices.Equal(from[:at], to[:at]) || !slices.Equal(from[at+drop:], to[at+put:]) {
						continue
					}
					if drop+put < h.Drop+len(h.Put) {
						t.Errorf("%q, %q: %v, but %d, %d, %q", from, to, h, at, drop, to[at:at+put])
					}
				}
			}
		}
	}
}

// P11.12: any earlier generation comes back, row by row, whatever is saved after it, and whatever is pruned before it.
func TestEarlierGenerations(t *testing.T) {
	d := dice(6)
	saved, pruned := 0, 0
	for range 300 {
		s := d.shelf(3)
		all := generations(s)
		for range 15 {
			if n := d.roll(len(all)); d.roll(5) == 0 || len(all) == 12 {
				x, e := sheaf.Prune(s, n)
				if e != api.OK {
					t.Errorf("%v, %d: %v", s, n, e)
				}
				s, all = x, all[n:]
				pruned += n
				continue
			}
			l := d.edited(all[len(all)-1])
			x, e := sheaf.Save(s, l)
			if e != api.OK {
				t.Errorf("%v, %q: %v", s, l, e)
			}
			wantAny(t, s, x.Changes[:len(s.Changes)], e, s.Changes)
			s, all = x, append(all, l)
			wantAny(t, s, s.Changes[len(s.Changes)-1], e, hunkOf(all[len(all)-2], l))
			saved++
			wantShelf(t, s, all...)
		}
	}
	if saved < 1000 || pruned < 300 {
		t.Error(saved, pruned)
	}
}

// P11.12: shelves with hunks that are not the smallest.
func TestGenerationsOfAnyShelf(t *testing.T) {
	d := dice(7)
	for range 1000 {
		s := d.shelf(11)
		all := generations(s)
		wantShelf(t, s, all...)
		n := d.roll(len(all))
		x, e := sheaf.Prune(s, n)
		wantAny(t, s, x, e, shelf(all[n], s.Changes[n:]...))
	}
}
