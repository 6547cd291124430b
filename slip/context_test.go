package slip_test

import (
	"slices"
	"strings"
	"testing"

	"postil/api"
	"postil/slip"
)

// P3.1: which cuts are valid.
func TestCuts(t *testing.T) {
	for width := -100; width <= 200; width++ {
		for side := range 256 {
			want := api.ErrCut
			if width >= 12 && width <= 80 && side >= 1 && side <= 3 {
				want = api.OK
			}
			if e := slip.Check(cut(width, uint8(side))); e != want {
				t.Error(width, side, e)
			}
		}
	}
	for _, width := range far {
		for _, side := range allSides {
			if e := slip.Check(cut(width, side)); e != api.ErrCut {
				t.Error(width, side, e)
			}
		}
	}
}

// P3.1: contexts of each side, as they are meant to be.
func TestContexts(t *testing.T) {
	long := "abcdefghijkl"
	for i, x := range []struct {
		text              []string
		width             int
		p                 api.Place
		left, right, even string
	}{
		// A word alone: of a text, of a chapter, and between words that are too long.
		{[]string{"a"}, 12, place(0, 0, 0), "|a|", "|a|", "|a|"},
		{[]string{"b", "a", "b"}, 80, place(1, 0, 0), "|a|", "|a|", "|a|"},
		{[]string{long + " " + long + " " + long}, 12, place(0, 0, 1), "|" + long + "|", "|" + long + "|", "|" + long + "|"},
		{[]string{long + " a " + long}, 13, place(0, 0, 1), "|a|", "|a|", "|a|"},
		// Words of just the width, with their spaces, and of one more.
		{[]string{"abcdef a abcde"}, 14, place(0, 0, 1), "abcdef|a|abcde", "abcdef|a|abcde", "abcdef|a|abcde"},
		{[]string{"abcdef a abcde"}, 13, place(0, 0, 1), "abcdef|a|", "abcdef|a|", "abcdef|a|"},
		{[]string{"abcde a abcdef"}, 13, place(0, 0, 1), "|a|abcdef", "|a|abcdef", "|a|abcdef"},
		{[]string{"abcdef a abcdef"}, 13, place(0, 0, 1), "abcdef|a|", "|a|abcdef", "|a|abcdef"},
		// Lines are one behind the other, chapters are not.
		{[]string{"x", "a b/c/d e f", "y"}, 20, place(1, 1, 0), "a b|c|d e f", "a b|c|d e f", "a b|c|d e f"},
		// The longest one, even if it has fewer words, or is less even.
		{[]string{"a b c d abcdefgh"}, 12, place(0, 0, 3), "c|d|abcdefgh", "c|d|abcdefgh", "c|d|abcdefgh"},
		{[]string{"abcdef a b c d"}, 12, place(0, 0, 1), "abcdef|a|b c", "abcdef|a|b c", "abcdef|a|b c"},
		{[]string{"abcdefghijk a b c d e f"}, 12, place(0, 0, 2), "a|b|c d e f", "a|b|c d e f", "a|b|c d e f"},
		// As long ones from each word on, with as many words; and two that are as even.
		{[]string{"a b c d e f g h i j/k l m n o p q r s t"}, 12, place(0, 1, 0), "f g h i j|k|", "|k|l m n o p", "i j|k|l m n"},
		{[]string{"a b c d e f g h i j/k l m n o p q r s t"}, 13, place(0, 1, 0), "e f g h i j|k|", "|k|l m n o p q", "h i j|k|l m n"},
		{[]string{"a b c d e f g h i j/k l m n o p q r s t"}, 13, place(0, 0, 1), "a|b|c d e f g", "|b|c d e f g h", "a|b|c d e f g"},
		// Even by words, not by letters: two words on each side, against one of four letters and three of eight, with their spaces.
		{[]string{"abcd efgh x i j klmn"}, 15, place(0, 0, 2), "abcd efgh|x|i j", "efgh|x|i j klmn", "abcd efgh|x|i j"},
		// As even: two words before and one after, and one before and two after.
		{[]string{"abcdef e x f ghijkl"}, 12, place(0, 0, 2), "abcdef e|x|f", "e|x|f ghijkl", "e|x|f ghijkl"},
	} {
		for n, want := range []string{x.left, x.right, x.even} {
			s, e := slip.Make(book(x.text...), cut(x.width, allSides[n]), x.p)
			parts := strings.Split(want, "|")
			wantOne(t, []int{i, n}, s, e, slipOf(x.p, parts[0], parts[1], parts[2]))
		}
	}
}

// P3.1 and P3.9: of all contexts that fit the one that is due, by all cuts.
func TestContextsAreTheBest(t *testing.T) {
	d := dice(1)
	for range 60 {
		base, c := d.text(8), d.cut()
		for _, p := range places(base) {
			for _, c.Side = range allSides {
				s, e := slip.Make(base, c, p)
				wantOne(t, c, s, e, best(base, c, p))
			}
		}
	}
}

// P3.9: no context that fits is longer, none fits with a word more, and no word is cut.
func TestContextsAreTheLongest(t *testing.T) {
	d := dice(2)
	for range 100 {
		base, c := d.text(8), d.cut()
		for _, p := range places(base) {
			s, _ := slip.Make(base, c, p)
			before, word, after := around(base, p)
			i, j := len(before)-len(strings.Fields(s.Before)), len(strings.Fields(s.After))
			if s.Before != strings.Join(before[i:], " ") || s.Word != word || s.After != strings.Join(after[:j], " ") {
				t.Errorf("%v is not of %v", s, base)
			}
			if length(s) > c.Width || i > 0 && length(s)+1+len(before[i-1]) <= c.Width || j < len(after) && length(s)+1+len(after[j]) <= c.Width {
				t.Errorf("%v of %v, by %v", s, base, c)
			}
			for _, x := range fitting(base, c.Width, p) {
				if x.length > length(s) {
					t.Errorf("%v of %v is longer than %v", x.slip, base, s)
				}
			}
		}
	}
}

// P3.10: a wider cut has no shorter context, and the same one if it is as long; and the side changes no length.
func TestWiderContexts(t *testing.T) {
	d := dice(3)
	for range 30 {
		base := d.text(10)
		l := places(base)
		p := l[d.roll(len(l))]
		var last [api.SideEven + 1]api.Slip
		for width := api.MinWidth; width <= api.MaxWidth; width++ {
			var lengths []int
			for _, side := range allSides {
				s, e := slip.Make(base, cut(width, side), p)
				if e != api.OK || length(s) < length(last[side]) || length(s) == length(last[side]) && s != last[side] {
					t.Errorf("by %d, %v, not %v", width, s, last[side])
				}
				last[side] = s
				lengths = append(lengths, length(s))
			}
			if len(slices.Compact(lengths)) > 1 {
				t.Error(width, last)
			}
		}
	}
}

// P3.1: ErrText, ErrCut and ErrPlace, in this order.
func TestErrorsOfMake(t *testing.T) {
	base := sample()
	for _, p := range noPlaces(base) {
		wantErrors(t, input{t: base, c: cut(12, api.SideLeft), p: p}, errorsOf(api.ErrPlace, "Make"))
		wantErrors(t, input{t: base, c: cut(11, api.SideLeft), p: p}, errorsOf(api.ErrCut, "Make"))
		wantErrors(t, input{c: cut(11, api.SideLeft), p: p}, errorsOf(api.ErrText, "Make"))
	}
	for _, p := range places(base) {
		wantErrors(t, input{t: base, c: cut(12, api.SideLeft), p: p}, errorsOf(api.OK, "Make"))
	}
}

// badTexts is texts that are not valid.
func badTexts() []api.Text {
	same := book("a", "b")
	same.Chapters[1].Id = 7
	far := book("a")
	far.Chapters[0].Id = 10000
	return []api.Text{{}, same, far, book(""), book("a/"), book("A"), book("abcdefghijklm"), book(strings.Repeat("a ", 11)), book(strings.Repeat("a/", 10) + "a"), book(slices.Repeat([]string{"a"}, 7)...)}
}

// badCuts is cuts that are not valid.
func badCuts() []api.Cut {
	l := []api.Cut{{}, cut(11, api.SideLeft), cut(81, api.SideEven), cut(20, 0), cut(20, 4), cut(80, 255)}
	for _, n := range far {
		l = append(l, cut(n, api.SideRight))
	}
	return l
}

// P3.1: the errors of texts come first, then those of cuts, whatever else there is.
func TestErrorsOfTextsAndCuts(t *testing.T) {
	bad := slipOf(place(9, 9, 9), "", "", "")
	x := input{p: place(9, 9, 9), to: place(8, 8, 8), s: bad, l: slices.Repeat([]api.Slip{bad}, 701), y: api.Copy{Id: -1}}
	for _, x.t = range badTexts() {
		for _, x.c = range badCuts() {
			wantErrors(t, x, errorsOf(api.ErrText, "Make", "All", "Part", "Wrong", "Where", "Missing", "Moved"))
		}
	}
	x.t = sample()
	for _, x.c = range badCuts() {
		wantErrors(t, x, errorsOf(api.ErrCut, "Check", "Make", "All", "Part", "Wrong", "Missing"))
		wantErrors(t, x, map[string]api.Errno{"Where": api.ErrSlip, "Moved": api.ErrCopy})
	}
}
