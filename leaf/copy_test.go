package leaf_test

import (
	"slices"
	"strconv"
	"strings"
	"testing"

	"postil/api"
	"postil/leaf"
)

// P1.1 and P1.4: copies that are valid, and their texts.
func TestTextsOfCopies(t *testing.T) {
	base := book("a b c/d", "e")
	for i, x := range []struct {
		l    []api.Reading
		want string
	}{
		{nil, "a b c/d|e"},
		{[]api.Reading{}, "a b c/d|e"},
		{[]api.Reading{omit(0, 0, 0), omit(0, 0, 2)}, "b/d|e"},
		{[]api.Reading{put(0, 0, 0, "x"), put(0, 0, 3, "y")}, "x a b c y/d|e"},
		{[]api.Reading{put(0, 0, 1, "y"), put(0, 0, 1, "x"), put(0, 0, 1, "y")}, "a y x y b c/d|e"},
		{[]api.Reading{put(0, 0, 1, "b"), omit(0, 0, 1)}, "a b c/d|e"},
		{[]api.Reading{put(0, 0, 1, "x"), put(0, 0, 1, "y"), other(0, 0, 1, "z")}, "a x y z c/d|e"},
		{[]api.Reading{other(0, 0, 0, "abcdefghijkl")}, "abcdefghijkl b c/d|e"},
		{[]api.Reading{omit(0, 1, 0), put(0, 1, 1, "x")}, "a b c/x|e"},
		{[]api.Reading{put(0, 1, 0, "d"), omit(0, 1, 0), other(1, 0, 0, "f"), put(1, 0, 1, "e")}, "a b c/d|f e"},
		{[]api.Reading{put(0, 0, 3, "z"), put(0, 1, 0, "z"), put(1, 0, 0, "z")}, "a b c z/z d|z e"},
		{slices.Repeat([]api.Reading{put(0, 0, 2, "x")}, 7), "a b x x x x x x x c/d|e"},
	} {
		read, e := leaf.Read(base, copyOf(x.l...))
		if words(read) != x.want || e != api.OK || read.Chapters[0].Id != 7 || read.Chapters[1].Id != 8 {
			t.Error(i, words(read), e)
		}
		if e := leaf.CheckCopy(base, copyOf(x.l...)); e != api.OK {
			t.Error(i, e)
		}
		if e := leaf.Check(read); e != api.OK {
			t.Error(i, e)
		}
	}
}

// badReadings is readings that no valid copy of "a b c/d|e" has, by what is wrong with them.
func badReadings() map[string][]api.Reading {
	l := map[string][]api.Reading{
		"no kind":                    {{At: place(0, 0, 0)}},
		"kind 4":                     {{At: place(0, 0, 0), Kind: 4, Word: "x"}},
		"kind 255":                   {{At: place(0, 0, 0), Kind: 255}},
		"left out with a word":       {{At: place(0, 0, 0), Kind: api.ReadOmit, Word: "a"}},
		"left out behind the line":   {omit(0, 0, 3)},
		"put in, not a word":         {put(0, 0, 0, "x y")},
		"put in, no word":            {put(0, 0, 0, "")},
		"put in far behind the line": {put(0, 0, 4, "x")},
		"another one, not a word":    {other(0, 0, 0, "X")},
		"another one, none":          {other(0, 0, 0, "")},
		"another one that is it":     {other(0, 0, 1, "b")},
		"another one behind":         {other(0, 0, 3, "x")},
		"too long":                   {put(0, 0, 0, "abcdefghijklm")},
		"left out twice":             {omit(0, 0, 0), omit(0, 0, 0)},
		"left out and another one":   {omit(0, 0, 0), other(0, 0, 0, "x")},
		"another one twice":          {other(0, 0, 0, "x"), other(0, 0, 0, "x")},
		"put in too late":            {other(0, 0, 0, "x"), put(0, 0, 0, "y")},
		"put in between":             {put(0, 0, 0, "y"), omit(0, 0, 0), put(0, 0, 0, "y")},
		"words back":                 {omit(0, 0, 1), omit(0, 0, 0)},
		"lines back":                 {put(0, 1, 0, "x"), put(0, 0, 0, "x")},
		"lines back, words on":       {put(0, 1, 0, "x"), put(0, 0, 1, "x")},
		"chapters back":              {put(1, 0, 0, "x"), put(0, 0, 0, "x")},
		"chapters back, lines on":    {put(1, 0, 0, "x"), put(0, 1, 0, "x")},
		"an empty line":              {omit(0, 1, 0)},
		"an empty last line":         {omit(1, 0, 0)},
		"a line of eleven words":     slices.Repeat([]api.Reading{put(0, 0, 3, "x")}, 8),
		"no such chapter":            {put(2, 0, 0, "x")},
		"no such line":               {put(0, 2, 0, "x")},
		"no such line there":         {put(1, 1, 0, "x")},
	}
	for _, n := range far {
		for i, p := range []api.Place{place(n, 0, 0), place(0, n, 0), place(0, 0, n)} {
			for _, kind := range []uint8{api.ReadOmit, api.ReadPut, api.ReadOther} {
				name := strconv.Itoa(n) + ", as number " + strconv.Itoa(i) + ", kind " + strconv.Itoa(int(kind))
				l[name] = []api.Reading{{At: p, Kind: kind, Word: strings.Repeat("x", min(1, int(kind)-1))}}
			}
		}
	}
	return l
}

// P1.1, P1.4 and P1.7: ErrCopy, before ErrPlace.
func TestCopiesThatAreNotValid(t *testing.T) {
	base := book("a b c/d", "e")
	want := map[string]api.Errno{"CheckCopy": api.ErrCopy, "Read": api.ErrCopy, "Stands": api.ErrCopy, "Doubt": api.ErrCopy}
	for name, l := range badReadings() {
		t.Run(name, func(t *testing.T) {
			c := copyOf(l...)
			wantErrors(t, input{t: base, c: c, p: place(9, 9, 9), l: []api.Copy{{}, c}}, want)
		})
	}
	for _, id := range far {
		c := api.Copy{Id: id}
		wantErrors(t, input{t: base, c: c, p: place(9, 9, 9), l: []api.Copy{c, {}}}, want)
	}
	for _, id := range []int{0, api.MaxId} {
		wantErrors(t, input{t: base, c: api.Copy{Id: id}}, map[string]api.Errno{"CheckCopy": api.OK, "Read": api.OK, "Stands": api.OK})
	}
}

// P1.1: as many readings as are allowed, and one more.
func TestMostReadings(t *testing.T) {
	base := book("a a a a a a a a a a/a a a a a a a a a a/a")
	var l []api.Reading
	for w := range api.MaxReadings {
		l = append(l, other(0, w/10, w%10, "b"))
	}
	if e := leaf.CheckCopy(base, copyOf(l...)); e != api.OK {
		t.Error(e)
	}
	if e := leaf.CheckCopy(base, copyOf(append(l, put(0, 2, 0, "b"))...)); e != api.ErrCopy {
		t.Error(e)
	}
	many := make([]api.Reading, 100000)
	if e := leaf.CheckCopy(base, copyOf(many...)); e != api.ErrCopy {
		t.Error(e)
	}
}

// P1.4: what a copy has in each place of the base.
func TestWhatCopiesHave(t *testing.T) {
	base := book("a b c/d", "e")
	c := copyOf(put(0, 0, 0, "x"), omit(0, 0, 0), put(0, 0, 1, "y"), put(0, 0, 2, "z"), other(0, 0, 2, "w"), put(0, 1, 1, "v"), other(1, 0, 0, "d"))
	for i, want := range []string{"", "b", "w", "d", "d"} {
		p := places(base)[i]
		if s, e := leaf.Stands(base, c, p); s != want || e != api.OK {
			t.Errorf("in %v stands %q, %v", p, s, e)
		}
	}
}

// P1.11: a copy's text is what it has in the places of the base, in their order, and the words that are put in.
func TestTextsAreWhatCopiesHave(t *testing.T) {
	d := dice(2)
	for range 200 {
		base := d.text(4)
		c := d.copied(t, base)
		read, e := leaf.Read(base, c)
		if e != api.OK {
			t.Fatal(e)
		}
		built := make([][][]string, len(base.Chapters))
		for i, x := range base.Chapters {
			built[i] = make([][]string, len(x.Lines))
		}
		for p := range allEnds(base) {
			line := &built[p.Chapter][p.Line]
			for _, r := range c.Readings {
				if r.At == p && r.Kind == api.ReadPut {
					*line = append(*line, r.Word)
				}
			}
			if s, e := leaf.Stands(base, c, p); e == api.OK && s != "" {
				*line = append(*line, s)
			}
		}
		for i, x := range read.Chapters {
			if x.Id != base.Chapters[i].Id || !slices.EqualFunc(x.Lines, built[i], slices.Equal) {
				t.Errorf("%v has %v in the places of the base, but the text %v", c, built[i], x)
			}
		}
	}
}

// P1.7: places in doubt, by copies of each kind.
func TestDoubt(t *testing.T) {
	base := book("a b c/d", "e")
	one := copyOf(put(0, 0, 0, "x"), omit(0, 0, 1), put(0, 0, 3, "a"))
	two := copyOf(other(0, 0, 0, "x"), other(1, 0, 0, "y"))
	three := copyOf(put(0, 1, 0, "d"), omit(0, 1, 0))
	for i, x := range []struct {
		l    []api.Copy
		want []api.Place
	}{
		{nil, nil},
		{[]api.Copy{}, nil},
		{[]api.Copy{{}}, nil},
		{[]api.Copy{copyOf(put(0, 0, 0, "a"))}, nil},
		{[]api.Copy{one}, []api.Place{place(0, 0, 1)}},
		{[]api.Copy{two}, []api.Place{place(0, 0, 0), place(1, 0, 0)}},
		{[]api.Copy{three, two, one}, []api.Place{place(0, 0, 0), place(0, 0, 1), place(0, 1, 0), place(1, 0, 0)}},
		{slices.Repeat([]api.Copy{two}, 5), []api.Place{place(0, 0, 0), place(1, 0, 0)}},
	} {
		if l, e := leaf.Doubt(base, x.l); !same(l, x.want, e) {
			t.Error(i, l, e)
		}
	}
}

// P1.7: ErrMany before ErrCopy.
func TestErrorsOfDoubt(t *testing.T) {
	bad := api.Copy{Id: -1}
	for _, x := range []struct {
		l []api.Copy
		e api.Errno
	}{
		{slices.Repeat([]api.Copy{{}}, 5), api.OK},
		{slices.Repeat([]api.Copy{{}}, 6), api.ErrMany},
		{slices.Repeat([]api.Copy{bad}, 6), api.ErrMany},
		{slices.Repeat([]api.Copy{{}}, 100000), api.ErrMany},
		{slices.Repeat([]api.Copy{bad}, 5), api.ErrCopy},
		{[]api.Copy{sampleCopy(), bad}, api.ErrCopy},
		{[]api.Copy{bad, sampleCopy()}, api.ErrCopy},
	} {
		wantErrors(t, input{t: sample(), l: x.l}, map[string]api.Errno{"Doubt": x.e})
	}
}

// P1.12: a place is in doubt if some copy has not its word, and only then; with a copy more all stay that were; and in whatever order copies are.
func TestDoubtIsWhatCopiesHaveNot(t *testing.T) {
	d := dice(3)
	for range 60 {
		base := d.text(4)
		var copies []api.Copy
		var before []api.Place
		for range api.MaxCopies {
			copies = append(copies, d.copied(t, base))
			l, e := leaf.Doubt(base, copies)
			var want []api.Place
			for _, p := range places(base) {
				if slices.ContainsFunc(copies, func(c api.Copy) bool { s, _ := leaf.Stands(base, c, p); return s != word(base, p) }) {
					want = append(want, p)
				}
			}
			if !same(l, want, e) {
				t.Errorf("in doubt %v, %v, not %v", l, e, want)
			}
			for _, p := range before {
				if !slices.Contains(l, p) {
					t.Errorf("%v is not in doubt any more", p)
				}
			}
			before = l
		}
		slices.Reverse(copies)
		if l, e := leaf.Doubt(base, copies); !same(l, before, e) {
			t.Errorf("in doubt %v, %v, not %v", l, e, before)
		}
	}
}
