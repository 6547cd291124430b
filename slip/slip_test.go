package slip_test

import (
	"slices"
	"strings"
	"testing"

	"postil/api"
	"postil/slip"
)

// P3.2 and P3.8: each place has one slip, in order, and nothing is wrong with it.
func TestAllSlips(t *testing.T) {
	d := dice(4)
	for range 60 {
		base, c := d.text(8), d.cut()
		all, e := slip.All(base, c)
		wantList(t, c, all, e, bests(base, c)...)
		var at []api.Place
		for _, s := range all {
			at = append(at, s.At)
			wrong, e := slip.Wrong(base, c, s)
			wantOne(t, s, wrong, e, api.WrongNone)
			made, e := slip.Make(base, c, s.At)
			wantOne(t, s, made, e, s)
		}
		wantList(t, "places", at, api.OK, places(base)...)
		missing, e := slip.Missing(base, c, all)
		wantList(t, "missing", missing, e)
		twice, e := slip.Twice(all)
		wantList(t, "twice", twice, e)
	}
}

// P3.2 and P3.8: the longest text that there is.
func TestAllSlipsOfTheLongestText(t *testing.T) {
	chapter := strings.Repeat("a b c d e f g h i j/", 9) + "k l m n o p q r s t"
	base := book(slices.Repeat([]string{chapter}, 6)...)
	for _, side := range allSides {
		all, e := slip.All(base, cut(80, side))
		if len(all) != 600 || e != api.OK {
			t.Error(len(all), e)
		}
		for i, s := range all {
			if length(s) != 79 || s.At != places(base)[i] {
				t.Error(s)
			}
		}
	}
}

// P3.2 and P3.12: the slips from each place to each other one, and of two parts, one behind the other.
func TestParts(t *testing.T) {
	d := dice(5)
	for range 10 {
		base, c := d.text(4), d.cut()
		l, want := places(base), bests(base, c)
		for i := range l {
			for j := i; j < len(l); j++ {
				part, e := slip.Part(base, c, l[i], l[j])
				wantList(t, []api.Place{l[i], l[j]}, part, e, want[i:j+1]...)
			}
			wantErrors(t, input{t: base, c: c, p: l[len(l)-1], to: l[i]}, errorsOf(argUnless(i == len(l)-1), "Part"))
		}
		all, e := slip.All(base, c)
		between := d.roll(len(l))
		one, f := slip.Part(base, c, l[0], l[between])
		wantList(t, "one part", one, f, all[:between+1]...)
		if between+1 < len(l) {
			two, g := slip.Part(base, c, l[between+1], l[len(l)-1])
			wantList(t, "two parts", slices.Concat(one, two), g, all...)
		}
		whole, g := slip.Part(base, c, l[0], l[len(l)-1])
		wantList(t, "the whole", whole, max(e, g), all...)
	}
}

func argUnless(ok bool) api.Errno {
	if ok {
		return api.OK
	}
	return api.ErrArg
}

// P3.2: ErrPlace for each of both places, before ErrArg.
func TestErrorsOfPart(t *testing.T) {
	base := sample()
	c := cut(14, api.SideEven)
	for _, p := range noPlaces(base) {
		for _, q := range append(places(base), p) {
			wantErrors(t, input{t: base, c: c, p: p, to: q}, errorsOf(api.ErrPlace, "Part"))
			wantErrors(t, input{t: base, c: c, p: q, to: p}, errorsOf(api.ErrPlace, "Part"))
			wantErrors(t, input{t: base, c: cut(81, api.SideEven), p: p, to: q}, errorsOf(api.ErrCut, "Part"))
		}
	}
	for i, p := range places(base) {
		for j, q := range places(base) {
			wantErrors(t, input{t: base, c: c, p: p, to: q}, errorsOf(argUnless(i <= j), "Part"))
		}
	}
}

// oddSlips is slips that are valid, though no call would return them.
func oddSlips() []api.Slip {
	long := "abcdefghijkl"
	six := strings.Repeat(long+" ", 6)
	l := []api.Slip{
		slipOf(place(0, 0, 0), "", "a", ""),
		slipOf(place(0, 0, 0), "", long, ""),
		slipOf(place(0, 0, 0), six+"ab", long, six+"az"),
		slipOf(place(0, 0, 0), strings.Repeat("a ", 39)+"bc", "z", ""),
		slipOf(place(0, 0, 0), "", "zyx", strings.Repeat("a ", 39)+"bc"),
		slipOf(place(0, 0, 0), "z", "a", "z"),
	}
	for _, p := range noPlaces(sample()) {
		l = append(l, slipOf(p, "the", "sea", "is"))
	}
	return l
}

// badWords is texts that are no word, and not what is before or after one.
func badWords() []string {
	return []string{" ", "  ", "abcdefghijklm", "A", "aB", "Ca", "0", "a1", "a-b", "a\tb", "a\nb", "a\x00", "\x00", "é", "aé", "`", "{", "\xff", "a.", "a ", " a", strings.Repeat("a", 10000), strings.Repeat(" ", 10000)}
}

// badSides is texts that may not be before or after a word.
func badSides() []string {
	six := strings.Repeat("abcdefghijkl ", 6)
	return append(badWords(), " a b", "a b ", "a  b", "a\u00a0b", "a,b", "a b C", "the abcdefghijklm", "abcdefghijklm the", "a\tb", six+"abc", strings.Repeat("a ", 40)+"a", strings.Repeat("a ", 10000)+"a")
}

// badSlips is slips that are not valid.
func badSlips() []api.Slip {
	l := []api.Slip{{}, slipOf(place(0, 0, 1), "the", "", "is old"), slipOf(place(0, 0, 1), "the", "is old", "")}
	for _, s := range badWords() {
		l = append(l, slipOf(place(0, 0, 1), "the", s, "is old"))
	}
	for _, s := range badSides() {
		l = append(l, slipOf(place(0, 0, 1), s, "sea", "is old"), slipOf(place(0, 0, 1), "the", "sea", s))
	}
	return l
}

// P3.3, P3.4, P3.5 and P3.6: which slips are valid.
func TestSlips(t *testing.T) {
	base, c, good := sample(), cut(14, api.SideEven), slipOf(place(0, 0, 0), "", "a", "")
	for _, s := range oddSlips() {
		wantErrors(t, input{t: base, c: c, s: s, other: good, l: []api.Slip{good, s}}, errorsOf(api.OK, "Wrong", "Where", "Missing", "Twice", "Order"))
		wantErrors(t, input{t: base, c: c, s: good, other: s, l: []api.Slip{s, good}}, errorsOf(api.OK, "Missing", "Twice", "Order"))
	}
	for _, s := range badSlips() {
		for _, s.At = range []api.Place{s.At, place(-1, 0, 0)} {
			wantErrors(t, input{t: base, c: c, s: s, other: good, l: []api.Slip{good, s}}, errorsOf(api.ErrSlip, "Wrong", "Where", "Missing", "Twice", "Order"))
			wantErrors(t, input{t: base, c: c, s: good, other: s, l: []api.Slip{s, good}}, errorsOf(api.ErrSlip, "Missing", "Twice", "Order"))
			wantErrors(t, input{t: base, s: s}, map[string]api.Errno{"Wrong": api.ErrCut, "Missing": api.ErrCut, "Where": api.ErrSlip})
		}
	}
}

// P3.3: the first thing that is wrong with a slip.
func TestWrong(t *testing.T) {
	right := slipOf(place(0, 0, 1), "the", "sea", "is old")
	for i, x := range []struct {
		s    api.Slip
		want uint8
	}{
		{right, api.WrongNone},
		{slipOf(right.At, "the", "sea", "is"), api.WrongAfter},
		{slipOf(right.At, "the", "sea", ""), api.WrongAfter},
		{slipOf(right.At, "the", "sea", "is old old"), api.WrongAfter},
		{slipOf(right.At, "", "sea", "is old"), api.WrongBefore},
		{slipOf(right.At, "is old", "sea", "the"), api.WrongBefore},
		{slipOf(right.At, "", "sea", "is old old"), api.WrongBefore},
		{slipOf(right.At, "the", "see", "is old"), api.WrongWord},
		{slipOf(right.At, "the", "seas", "is old"), api.WrongWord},
		{slipOf(right.At, "", "old", ""), api.WrongWord},
		// The same words, but of another place.
		{slipOf(place(0, 1, 2), "the", "sea", "is old"), api.WrongBefore},
		{slipOf(place(0, 0, 0), "the", "sea", "is old"), api.WrongWord},
		{slipOf(place(1, 0, 1), "sea", "and", "sea"), api.WrongNone},
		{slipOf(place(1, 0, 2), "sea and", "sea", ""), api.WrongNone},
	} {
		wrong, e := slip.Wrong(sample(), cut(14, api.SideEven), x.s)
		wantOne(t, i, wrong, e, x.want)
	}
	for _, p := range noPlaces(sample()) {
		for _, s := range []api.Slip{slipOf(p, "the", "sea", "is old"), slipOf(p, "", "x", "")} {
			wrong, e := slip.Wrong(sample(), cut(14, api.SideEven), s)
			wantOne(t, s, wrong, e, api.WrongPlace)
		}
	}
}

// P3.3: what was right by one cut is right by another one only if that has the same slip.
func TestWrongByOtherCuts(t *testing.T) {
	d := dice(6)
	for range 100 {
		base, c, b := d.text(6), d.cut(), d.cut()
		for _, s := range bests(base, c) {
			own, want := best(base, b, s.At), uint8(api.WrongNone)
			switch {
			case own.Before != s.Before:
				want = api.WrongBefore
			case own.After != s.After:
				want = api.WrongAfter
			}
			wrong, e := slip.Wrong(base, b, s)
			wantOne(t, s, wrong, e, want)
		}
	}
}

// P3.4: places of a word between others, over the ends of lines, but not of chapters.
func TestWhere(t *testing.T) {
	base := book("a b a/a b a b", "b a a", "the sea/the sea")
	for i, x := range []struct {
		before, word, after string
		want                []api.Place
	}{
		{"", "a", "", []api.Place{place(0, 0, 0), place(0, 0, 2), place(0, 1, 0), place(0, 1, 2), place(1, 0, 1), place(1, 0, 2)}},
		{"", "b", "", []api.Place{place(0, 0, 1), place(0, 1, 1), place(0, 1, 3), place(1, 0, 0)}},
		{"a", "a", "", []api.Place{place(0, 1, 0), place(1, 0, 2)}},
		{"", "a", "a", []api.Place{place(0, 0, 2), place(1, 0, 1)}},
		{"b", "a", "", []api.Place{place(0, 0, 2), place(0, 1, 2), place(1, 0, 1)}},
		{"a b", "a", "", []api.Place{place(0, 0, 2), place(0, 1, 2)}},
		{"b a", "a", "", []api.Place{place(0, 1, 0), place(1, 0, 2)}},
		{"", "a", "b a", []api.Place{place(0, 0, 0), place(0, 1, 0)}},
		{"a b a", "a", "b a b", []api.Place{place(0, 1, 0)}},
		{"", "a", "b a a b a b", []api.Place{place(0, 0, 0)}},
		{"a b a a b a", "b", "", []api.Place{place(0, 1, 3)}},
		{"a b a a b a b", "b", "", nil},
		{"", "b", "b a a", nil},
		{"a", "b", "b", nil},
		{"", "c", "", nil},
		{strings.TrimSpace(strings.Repeat("b a ", 20)), "b", "", nil},
		{"", "b", strings.TrimSpace(strings.Repeat("a b ", 20)), nil},
		// Whole words only.
		{"he", "sea", "", nil},
		{"", "sea", "th", nil},
		{"", "se", "", nil},
		{"the", "sea", "the", []api.Place{place(2, 0, 1)}},
		{"sea the", "sea", "", []api.Place{place(2, 1, 1)}},
	} {
		for _, at := range []api.Place{place(0, 0, 0), place(1, 0, 2), place(-1, 7, 99)} {
			l, e := slip.Where(base, slipOf(at, x.before, x.word, x.after))
			wantList(t, i, l, e, x.want...)
		}
	}
}

// P3.11: a slip may be from its own place, and from each other one with the same words around it; with fewer words from no fewer places.
func TestWhereSlipsMayBeFrom(t *testing.T) {
	d := dice(7)
	for range 60 {
		base, c := d.text(8), d.cut()
		for _, s := range bests(base, c) {
			l, e := slip.Where(base, s)
			wantList(t, s, l, e, suiting(base, s)...)
			if !slices.Contains(l, s.At) {
				t.Errorf("%v of %v: %v", s, base, l)
			}
			for range 4 {
				before, after := strings.Fields(s.Before), strings.Fields(s.After)
				s.Before = strings.Join(before[d.roll(len(before)+1):], " ")
				s.After = strings.Join(after[:d.roll(len(after)+1)], " ")
				more, e := slip.Where(base, s)
				wantList(t, s, more, e, suiting(base, s)...)
				for _, p := range l {
					if !slices.Contains(more, p) {
						t.Errorf("%v of %v: %v, not %v", s, base, more, l)
					}
				}
				l = more
			}
		}
	}
}

// P3.5: places whose slip is not in a list.
func TestMissing(t *testing.T) {
	base, c := sample(), cut(14, api.SideEven)
	all := bests(base, c)
	l, e := slip.Missing(base, c, nil)
	wantList(t, "of none", l, e, places(base)...)
	l, e = slip.Missing(base, c, all[1:])
	wantList(t, "of all but the first one", l, e, places(base)[0])
	l, e = slip.Missing(base, c, []api.Slip{all[9], all[0], all[9], all[5], all[0]})
	wantList(t, "of all but three", l, e, slices.Concat(places(base)[1:5], places(base)[6:9])...)
	// With anything else it is not the slip of the place.
	for i, change := range []func(s *api.Slip){
		func(s *api.Slip) { s.At.Word = 99 },
		func(s *api.Slip) { s.At = place(0, 1, 1) },
		func(s *api.Slip) { s.Word = "see" },
		func(s *api.Slip) { s.Before = "" },
		func(s *api.Slip) { s.After = "is" },
	} {
		list := slices.Clone(all)
		change(&list[1])
		l, e := slip.Missing(base, c, list)
		wantList(t, i, l, e, place(0, 0, 1))
	}
	l, e = slip.Missing(base, cut(80, api.SideEven), all)
	wantList(t, "by another cut", l, e, places(base)[:7]...)
}

// P3.5: of any slips, in any order, some of them there twice, some by another cut.
func TestMissingAndTwiceOfAnySlips(t *testing.T) {
	d := dice(8)
	for range 100 {
		base, c := d.text(6), d.cut()
		all := bests(base, c)
		others := bests(base, d.cut())
		var list []api.Slip
		for range d.roll(2 * len(all)) {
			list = append(list, [][]api.Slip{all, others}[d.roll(5)/4][d.roll(len(all))])
		}
		var missing []api.Place
		for _, s := range all {
			if !slices.Contains(list, s) {
				missing = append(missing, s.At)
			}
		}
		var twice []int
		for i := range list {
			if slices.Index(list, list[i]) < i {
				twice = append(twice, i)
			}
		}
		l, e := slip.Missing(base, c, list)
		wantList(t, list, l, e, missing...)
		again, e := slip.Twice(list)
		wantList(t, list, again, e, twice...)
	}
}

// P3.5: slips that are the same as one before them.
func TestTwice(t *testing.T) {
	a := slipOf(place(0, 0, 1), "the", "sea", "is old")
	l := []api.Slip{a}
	for _, change := range []func(s *api.Slip){
		func(s *api.Slip) { s.At.Chapter = 1 },
		func(s *api.Slip) { s.At.Line = 1 },
		func(s *api.Slip) { s.At.Word = -1 },
		func(s *api.Slip) { s.Word = "seas" },
		func(s *api.Slip) { s.Before = "" },
		func(s *api.Slip) { s.After = "the" },
		func(s *api.Slip) { s.Before, s.After = s.After, s.Before },
	} {
		b := a
		change(&b)
		l = append(l, b)
	}
	twice, e := slip.Twice(l)
	wantList(t, "none", twice, e)
	twice, e = slip.Twice(slices.Concat(l[:3], l[1:4], l[1:2], l[4:], l[7:]))
	wantList(t, "five", twice, e, 3, 4, 6, 11)
	twice, e = slip.Twice(nil)
	wantList(t, "of none", twice, e)
	twice, e = slip.Twice(slices.Repeat([]api.Slip{a}, 5))
	wantList(t, "of the same", twice, e, 1, 2, 3, 4)
}

// P3.5: as many slips as are allowed, and one more; ErrCut before ErrMany before ErrSlip.
func TestMostSlips(t *testing.T) {
	base, c := sample(), cut(14, api.SideEven)
	s := slipOf(place(0, 0, 0), "", "the", "sea is old")
	list := slices.Repeat([]api.Slip{s}, api.MaxSlips)
	twice, e := slip.Twice(list)
	if len(twice) != 699 || twice[0] != 1 || twice[698] != 699 || e != api.OK {
		t.Error(len(twice), e)
	}
	missing, e := slip.Missing(base, c, list)
	wantList(t, "of 700", missing, e, places(base)[1:]...)
	for _, last := range []api.Slip{s, {}} {
		list := append(slices.Clone(list), last)
		wantErrors(t, input{t: base, c: c, l: list}, errorsOf(api.ErrMany, "Missing", "Twice"))
		wantErrors(t, input{t: base, l: list}, map[string]api.Errno{"Missing": api.ErrCut, "Twice": api.ErrMany})
		wantErrors(t, input{t: base, c: c, l: list[1:]}, errorsOf(slipUnless(last == s), "Missing", "Twice"))
	}
	wantErrors(t, input{t: base, c: c, l: make([]api.Slip, 100000)}, errorsOf(api.ErrMany, "Missing", "Twice"))
}

func slipUnless(ok bool) api.Errno {
	if ok {
		return api.OK
	}
	return api.ErrSlip
}
