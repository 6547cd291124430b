package hand_test

import (
	"slices"
	"testing"

	"postil/api"
	"postil/hand"
	"postil/slip"
)

// slipsOf is the slips of all places of lines with these numbers, one by one, in their order.
func slipsOf(t api.Text, c api.Cut, isOpen func(n int) bool) []api.Slip {
	var l []api.Slip
	n := 0
	for i, chapter := range t.Chapters {
		for j, line := range chapter.Lines {
			for w := range line {
				if isOpen(n) {
					s, _ := slip.Make(t, c, place(i, j, w))
					l = append(l, s)
				}
			}
			n++
		}
	}
	return l
}

// open is the numbers of all lines that are in doubt, by the word of the document.
func open(r api.Round) func(n int) bool {
	again := againOf(r)
	return func(n int) bool {
		for part, s := range r.Shares {
			if s.From <= n && n <= s.To && r.Sheets[part].Back && !slices.Contains(again, part) {
				return false
			}
		}
		return true
	}
}

// P5.6: a line is in doubt if no part has it, or only parts that are not back, or that are to be written again.
func TestDoubt(t *testing.T) {
	text := book("the sea/is old", "old/the sea")
	three := []api.Share{share(0, 1, 0, 0), share(1, 2, 0, 0), share(3, 3, 0, 0)}
	first, second, third := back("the sea/is old"), back("is old/old"), back("the sea")
	for _, x := range []struct {
		r    api.Round
		want []int
	}{
		{parts(text, nil), []int{0, 1, 2, 3}},
		{parts(text, three, first, second, third), nil},
		{parts(text, three, first, second, api.Sheet{}), []int{3}},
		{parts(text, three, api.Sheet{}, second, third), []int{0}},
		{parts(text, three, first, api.Sheet{}, third), []int{2}},
		{parts(text, three, first, back("is"), third), []int{2}},
		{parts(text, three, first, back("it is/old"), third), []int{0}},
		{parts(text, three, first, second, back("")), []int{3}},
		{parts(text, three, api.Sheet{}, api.Sheet{}, api.Sheet{}), []int{0, 1, 2, 3}},
		{parts(text, three[1:], second, third), []int{0}},
		// What is written wrong, but in one way, is not in doubt.
		{parts(text, three, back("a/b"), back("b/c"), back("d")), nil},
	} {
		l, e := hand.Doubt(x.r, even)
		wantList(t, x.r, l, e, slipsOf(text, even, func(n int) bool { return slices.Contains(x.want, n) })...)
	}
}

// P5.6 and P5.11: the slips are those of the text, by the cut, of all lines that no part has as it came back.
func TestDoubtByAllParts(t *testing.T) {
	d := dice(16)
	some := 0
	for range 1000 {
		r, _ := d.round(6)
		c := api.Cut{Width: 12 + d.roll(9), Side: uint8(1 + d.roll(3))}
		l, e := hand.Doubt(r, c)
		want := slipsOf(r.Text, c, open(r))
		wantList(t, r, l, e, want...)
		if n, _ := hand.Gaps(r); len(want) > len(slipsOf(r.Text, c, func(k int) bool { return slices.Contains(n, k) })) {
			some++
		}
	}
	if some < 100 {
		t.Error(some)
	}
}

// P5.11: with a part more that is back, and no part that has to be written again more, no more slips are in doubt.
func TestOneMorePartIsBack(t *testing.T) {
	d := dice(17)
	fewer := 0
	for range 2000 {
		r, _ := d.round(6)
		part := slices.IndexFunc(r.Sheets, func(s api.Sheet) bool { return !s.Back })
		if part < 0 {
			continue
		}
		more := with(r, func(r *api.Round) { r.Sheets[part], _ = d.write(r.Text, r.Shares[part], one(&d, 3, 1000), 0, 1, 2) })
		before, _ := hand.Again(r)
		after, _ := hand.Again(more)
		if slices.ContainsFunc(after, func(part int) bool { return !slices.Contains(before, part) }) {
			continue
		}
		a, _ := hand.Doubt(r, even)
		b, e := hand.Doubt(more, even)
		if e != api.OK || slices.ContainsFunc(b, func(s api.Slip) bool { return !slices.Contains(a, s) }) {
			t.Error(r, part, more.Sheets[part], a, b, e)
		}
		if len(b) < len(a) {
			fewer++
		}
	}
	if fewer < 100 {
		t.Error(fewer)
	}
}
