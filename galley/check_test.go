package galley_test

import (
	"slices"
	"strings"
	"testing"

	"postil/api"
	"postil/galley"
)

// badGalleys is galleys that are not valid, each for one reason.
func badGalleys() []api.Galley {
	l := []api.Galley{{}, {Height: 5}, galleyOf(3, 3, 3), galleyOf(41, 3, 3), galleyOf(0, 3), galleyOf(4, make([]int, 31)...)}
	l = append(l, galleyOf(4, slices.Repeat([]int{3}, 31)...), galleyOf(40, slices.Repeat([]int{1}, 1000)...))
	for _, lines := range append([]int{0, 21}, far...) {
		l = append(l, galleyOf(5, lines), galleyOf(5, lines, 3, 3), galleyOf(5, 3, lines, 3), galleyOf(5, append(slices.Repeat([]int{3}, 29), lines)...))
		l = append(l, galleyOf(5, lines, lines), galleyOf(5, lines, -lines))
	}
	for _, height := range far {
		l = append(l, galleyOf(height, 3, 3))
	}
	for _, word := range noWords {
		for i := range 3 {
			g := galleyOf(5, 3, 3, 3)
			g.Blocks[i].Word = word
			l = append(l, g)
		}
	}
	return l
}

// P8.1: which galleys are valid, by their heights, their blocks, and lines of these.
func TestGalleys(t *testing.T) {
	want := func(isValid bool, g api.Galley) {
		t.Helper()
		e := api.ErrGalley
		if isValid {
			e = api.OK
		}
		if got := galley.Check(g); got != e {
			t.Errorf("%+v: %v", g, got)
		}
	}
	for n := -100; n <= 200; n++ {
		want(n >= 4 && n <= 40, galleyOf(n, 3, 3))
		want(n >= 1 && n <= 20, galleyOf(4, n))
		want(n >= 1 && n <= 20, galleyOf(40, 1, n))
		want(n >= 1 && n <= 30, galleyOf(4, slices.Repeat([]int{20}, max(n, 0))...))
	}
	for n := range 20 {
		g := galleyOf(5, 3, 3)
		g.Blocks[1].Word = strings.Repeat("z", n)
		want(n >= 1 && n <= 12, g)
	}
	for _, g := range badGalleys() {
		want(false, g)
	}
	// Words may come again, and in any order.
	want(true, api.Galley{Height: 5, Blocks: []api.Block{{Word: "z", Lines: 1}, {Word: "a", Lines: 2}, {Word: "z", Lines: 1}, {Word: "z", Lines: 1}}})
}

// P8.1: ErrGalley comes first, whatever else there is, in all calls with a galley.
func TestErrorsOfGalleys(t *testing.T) {
	for _, g := range badGalleys() {
		for _, breaks := range [][]int{nil, {3, 6}, {3}, {-1}, make([]int, 1000)} {
			for _, n := range append([]int{0, 21}, far...) {
				wantErrors(t, input{g: g, breaks: breaks, line: n, block: n, lines: n}, api.ErrGalley, calls...)
			}
		}
	}
}

// badBreaks is breakings of the galley of the examples that are not valid, each for one reason.
func badBreaks() [][]int {
	l := [][]int{
		nil,
		{15},
		{5},
		{5, 9, 13},
		{9, 13, 15},
		{5, 9, 15},
		{5, 11, 15},
		{0, 5, 9, 13, 15},
		{5, 5, 9, 13, 15},
		{5, 9, 9, 13, 15},
		{5, 9, 13, 15, 15},
		{5, 9, 8, 13, 15},
		{9, 5, 13, 15},
		{15, 13, 9, 5},
		{1, 5, 9, 13, 15},
		{2, 5, 9, 13, 15},
		{4, 9, 13, 15},
		{5, 6, 9, 13, 15},
		{5, 10, 15},
		{5, 9, 12, 15},
		{5, 9, 13, 14, 15},
		{5, 9, 13, 14},
		{5, 9, 13, 15, 16},
		{5, 9, 13, 15, 20},
		{5, 9, 13, 16},
		{5, 9, 13, 15, 5, 9, 13, 15},
		make([]int, 1000),
		slices.Repeat([]int{15}, 1000),
	}
	for _, n := range far {
		l = append(l, []int{n}, []int{n, 5, 9, 13, 15}, []int{5, n, 9, 13, 15}, []int{5, 9, 13, n}, []int{5, 9, 13, 15, n}, []int{n, -n}, []int{5, n, n + 4, 15})
	}
	return l
}

// P8.1: ErrBreaks comes next, in all calls with breaks, and only there.
func TestErrorsOfBreaks(t *testing.T) {
	for _, breaks := range badBreaks() {
		for _, n := range append([]int{0, 1, 21}, far...) {
			x := input{g: sample(), breaks: breaks, line: n, block: n, lines: n}
			wantErrors(t, x, api.ErrBreaks, ofBreaks...)
			wantErrors(t, x, api.OK, ofGalleys...)
		}
	}
}

// P8.1: which breakings are valid, of all lists of increasing numbers, and of those that begin with 0, or go on behind all lines.
func TestBreakings(t *testing.T) {
	for _, g := range []api.Galley{galleyOf(4, 1), galleyOf(5, 1, 1, 1), galleyOf(4, 3, 2, 4), galleyOf(4, 5, 3), galleyOf(6, 7, 2), galleyOf(5, 8), galleyOf(9, 2, 6), galleyOf(4, 4, 1, 5)} {
		valid := breakings(g)
		found := 0
		for set := range 1 << (total(g) + 2) {
			var breaks []int
			for n := range total(g) + 2 {
				if set>>n&1 == 1 {
					breaks = append(breaks, n)
				}
			}
			want := api.ErrBreaks
			if slices.ContainsFunc(valid, func(l []int) bool { return slices.Equal(l, breaks) }) {
				want = api.OK
				found++
			}
			wantErrors(t, input{g: g, breaks: breaks, lines: 1}, want, ofBreaks...)
		}
		if found != len(valid) || found == 0 {
			t.Error(g, found, valid)
		}
	}
}

// P8.4: ErrArg unless there is the line.
func TestErrorsOfAt(t *testing.T) {
	for n := -100; n <= 100; n++ {
		want := api.ErrArg
		if n >= 0 && n < 15 {
			want = api.OK
		}
		wantErrors(t, input{g: sample(), breaks: []int{5, 9, 13, 15}, line: n}, want, "At")
		wantErrors(t, input{g: sample(), breaks: []int{5, 9, 13, 15}, line: n, lines: 1}, api.OK, "Columns", "Torn", "Fix")
	}
	for _, n := range far {
		wantErrors(t, input{g: sample(), breaks: []int{5, 9, 13, 15}, line: n}, api.ErrArg, "At")
	}
	wantErrors(t, input{g: galleyOf(4, 1), breaks: []int{1}}, api.OK, "At")
	wantErrors(t, input{g: galleyOf(4, 1), breaks: []int{1}, line: 1}, api.ErrArg, "At")
}

// P8.4 and P8.5: ErrArg unless there is the block, and unless it may have so many lines.
func TestErrorsOfBlocks(t *testing.T) {
	for n := -100; n <= 100; n++ {
		want := api.ErrArg
		if n >= 0 && n < 4 {
			want = api.OK
		}
		wantErrors(t, input{g: sample(), breaks: []int{5, 9, 13, 15}, block: n, lines: 20}, want, "Columns", "Fix")
		wantErrors(t, input{g: sample(), breaks: []int{5, 9, 13, 15}, block: n, lines: 21}, want, "Columns")
		wantErrors(t, input{g: sample(), breaks: []int{5, 9, 13, 15}, block: n, lines: 21}, api.ErrArg, "Fix")
		want = api.ErrArg
		if n >= 1 && n <= 20 {
			want = api.OK
		}
		wantErrors(t, input{g: sample(), breaks: []int{5, 9, 13, 15}, block: 3, lines: n}, want, "Fix")
	}
	for _, n := range far {
		x := input{g: sample(), breaks: []int{5, 9, 13, 15}, block: n, lines: 1}
		wantErrors(t, x, api.ErrArg, "Columns", "Fix")
		wantErrors(t, x, api.OK, "At", "Torn", "Waste")
		wantErrors(t, input{g: sample(), breaks: []int{5, 9, 13, 15}, lines: n}, api.ErrArg, "Fix")
	}
}

// badTexts is texts that are not valid.
func badTexts() []api.Text {
	l := []api.Text{{}, book("a", "b", "c", "d", "e", "f", "g"), book("a/"), book("a", ""), book(strings.Repeat("a ", 11)), book(strings.Repeat("a/", 10) + "a")}
	same := book("a", "b")
	same.Chapters[1].Id = 7
	l = append(l, same)
	for _, n := range append(far[:4:4], 10000) {
		other := book("a")
		other.Chapters[0].Id = n
		l = append(l, other)
	}
	for _, word := range noWords {
		l = append(l, api.Text{Chapters: []api.Chapter{{Lines: [][]string{{"sea", word}}}}})
	}
	return l
}

// crowded is a text of so many different words, each as often as it is told.
func crowded(words, times int) api.Text {
	var t api.Text
	for range 6 {
		t.Chapters = append(t.Chapters, api.Chapter{Id: len(t.Chapters)})
	}
	for n := range words * times {
		c := &t.Chapters[n/100]
		if n%10 == 0 {
			c.Lines = append(c.Lines, nil)
		}
		last := &c.Lines[len(c.Lines)-1]
		*last = append(*last, string([]byte{'a' + byte(n%words/26), 'a' + byte(n%words%26)}))
	}
	t.Chapters = t.Chapters[:(words*times+99)/100]
	return t
}

// P8.1: leaf.Check's error, then slip.Check's, then ErrArg, then ErrMany.
func TestErrorsOfSet(t *testing.T) {
	good := api.Cut{Width: 12, Side: api.SideLeft}
	bad := []api.Cut{{}, {Width: 11, Side: 1}, {Width: 81, Side: 1}, {Width: 12}, {Width: 12, Side: 4}, {Width: 12, Side: 255}}
	for _, n := range far {
		bad = append(bad, api.Cut{Width: n, Side: 1})
	}
	heights := append([]int{0, 3, 41}, far...)
	many := []api.Text{crowded(31, 1), crowded(1, 20), crowded(2, 20), crowded(100, 1), crowded(600, 1), crowded(1, 600), crowded(31, 19), crowded(30, 20)}
	for _, text := range badTexts() {
		for _, c := range append(bad, good) {
			for _, height := range append(heights, 4) {
				wantErrors(t, input{t: text, c: c, height: height}, api.ErrText, "Set")
			}
		}
	}
	for _, text := range append(many, book("a")) {
		for _, height := range heights {
			for _, c := range bad {
				wantErrors(t, input{t: text, c: c, height: height}, api.ErrCut, "Set")
			}
			wantErrors(t, input{t: text, c: good, height: height}, api.ErrArg, "Set")
		}
	}
	for _, text := range many {
		wantErrors(t, input{t: text, c: good, height: 4}, api.ErrMany, "Set")
		wantErrors(t, input{t: text, c: good, height: 40}, api.ErrMany, "Set")
	}
	for n := -100; n <= 100; n++ {
		want := api.ErrArg
		if n >= 4 && n <= 40 {
			want = api.OK
		}
		wantErrors(t, input{t: book("a"), c: good, height: n}, want, "Set")
	}
}

// P8.1: how many words a text may have, and how often each one may come.
func TestMostOfSet(t *testing.T) {
	c := api.Cut{Width: 80, Side: api.SideEven}
	for words := 1; words <= 40; words++ {
		want := api.ErrMany
		if words <= 30 {
			want = api.OK
		}
		wantErrors(t, input{t: crowded(words, 1), c: c, height: 4}, want, "Set")
	}
	for times := 1; times <= 40; times++ {
		want := api.ErrMany
		if times <= 19 {
			want = api.OK
		}
		wantErrors(t, input{t: crowded(1, times), c: c, height: 4}, want, "Set")
		wantErrors(t, input{t: crowded(3, times), c: c, height: 40}, want, "Set")
	}
	g, e := galley.Set(crowded(30, 19), c, 40)
	wantOne(t, "the most", len(g.Blocks), e, 30)
	for _, b := range g.Blocks {
		wantOne(t, b.Word, b.Lines, galley.Check(g), 20)
	}
}
