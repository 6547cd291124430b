package hand_test

import (
	"slices"
	"testing"

	"postil/api"
	"postil/hand"
)

// P5.1 and P5.13: lines by their numbers are those of the chapters, one behind the other.
func TestLines(t *testing.T) {
	d := dice(5)
	for range 300 {
		r, _ := d.round(5)
		n := 0
		for _, c := range r.Text.Chapters {
			for _, line := range c.Lines {
				got, e := hand.Line(r, n)
				wantList(t, n, got, e, line...)
				n++
			}
		}
		wantErrors(t, input{r: r, n: n}, api.ErrArg, "Line")
	}
}

// P5.1: lines that are in no part, before the first part, between two, and behind the last one.
func TestGaps(t *testing.T) {
	none := api.Sheet{}
	for _, x := range []struct {
		r    api.Round
		want []int
	}{
		{parts(numbered(2, 3), nil), []int{0, 1, 2, 3, 4}},
		{parts(numbered(2, 3), []api.Share{share(0, 4, 0, 0)}, none), nil},
		{parts(numbered(2, 3), []api.Share{share(1, 3, 0, 0)}, none), []int{0, 4}},
		{parts(numbered(2, 3), []api.Share{share(0, 0, 0, 0), share(4, 4, 0, 0)}, none, none), []int{1, 2, 3}},
		{parts(numbered(2, 3), []api.Share{share(0, 2, 0, 0), share(1, 4, 0, 0)}, none, none), nil},
		{parts(numbered(2, 3), []api.Share{share(1, 2, 0, 0), share(2, 3, 0, 0)}, back("x"), none), []int{0, 4}},
	} {
		l, e := hand.Gaps(x.r)
		wantList(t, x.r.Shares, l, e, x.want...)
	}
}

// P5.13: a line is a gap if it is in no part, whatever came back, and only then.
func TestGapsAreInNoPart(t *testing.T) {
	d := dice(6)
	found := 0
	for range 500 {
		r, _ := d.round(5)
		l, e := hand.Gaps(r)
		if e != api.OK || !slices.IsSorted(l) {
			t.Error(l, e)
		}
		for n := range linesOf(r.Text) {
			inPart := slices.ContainsFunc(r.Shares, func(s api.Share) bool { return s.From <= n && n <= s.To })
			if slices.Contains(l, n) == inPart {
				t.Error(r.Shares, n, l)
			}
		}
		if len(l) > 0 && len(r.Shares) > 1 {
			found++
		}
	}
	if found < 50 {
		t.Error(found)
	}
}
