package rack_test

import (
	"math"
	"slices"
	"strings"
	"testing"

	"postil/api"
	"postil/rack"
	"postil/slip"
)

// P6.1: ranks by each of the four.
func TestRanks(t *testing.T) {
	l := []api.Slip{
		slipOf(0, 0, 1, "b", "sea", "a"),
		slipOf(0, 0, 0, "b a", "sea", "a a"),
		slipOf(1, 0, 0, "", "old", "ab"),
		slipOf(0, 0, 1, "b", "sea", "a"),
		slipOf(0, 0, 1, "a", "sea", "a"),
		slipOf(0, 0, 1, "b", "sea", ""),
		slipOf(9, 9, 9, "bb", "olde", "b"),
	}
	for by, want := range map[uint8][]int{
		api.ByOrder:  {5, 2, 0, 5, 4, 3, 1},
		api.ByWord:   {2, 2, 0, 2, 2, 2, 1},
		api.ByBefore: {2, 3, 0, 2, 1, 2, 4},
		api.ByAfter:  {1, 2, 3, 1, 1, 0, 4},
	} {
		ranks, e := rack.Ranks(l, by)
		wantList(t, by, ranks, e, want...)
	}
}

// P6.1: no slips have no ranks, and slips that are all the same have 0.
func TestRanksOfFewSlips(t *testing.T) {
	for _, by := range allBy {
		ranks, e := rack.Ranks(nil, by)
		wantList(t, by, ranks, e)
		ranks, e = rack.Ranks(words("sea"), by)
		wantList(t, by, ranks, e, 0)
		ranks, e = rack.Ranks(slices.Repeat(words("sea"), 60), by)
		wantList(t, by, ranks, e, make([]int, 60)...)
	}
}

// P6.1: as many ranks as slips, and places of any numbers.
func TestRanksOfManySlips(t *testing.T) {
	var l []api.Slip
	var want []int
	for i := range 60 {
		l = append(l, slipOf(math.MaxInt-i, math.MinInt, 0, strings.Repeat("a", 1+i%6), "a", strings.Repeat("b ", i/6)+"b"))
		want = append(want, 59-i)
	}
	ranks, e := rack.Ranks(l, api.ByOrder)
	wantList(t, api.ByOrder, ranks, e, want...)
	for i := range want {
		want[i] = i % 6
	}
	ranks, e = rack.Ranks(l, api.ByBefore)
	wantList(t, api.ByBefore, ranks, e, want...)
	for i := range want {
		want[i] = i / 6
	}
	ranks, e = rack.Ranks(l, api.ByAfter)
	wantList(t, api.ByAfter, ranks, e, want...)
	ranks, e = rack.Ranks(l, api.ByWord)
	wantList(t, api.ByWord, ranks, e, make([]int, 60)...)
}

// comparing is how slips are compared, by each of the four.
func comparing(by uint8) func(a, b api.Slip) int {
	return func(a, b api.Slip) int {
		switch by {
		case api.ByWord:
			return strings.Compare(a.Word, b.Word)
		case api.ByBefore:
			return strings.Compare(a.Before, b.Before)
		case api.ByAfter:
			return strings.Compare(a.After, b.After)
		}
		n, _ := slip.Order(a, b)
		return n
	}
}

// P6.1: a rank is how many different ones there are that are less, of any slips.
func TestRanksAreHowManyAreLess(t *testing.T) {
	d := dice(1)
	for range 300 {
		l := d.slips(60)
		for _, by := range allBy {
			compare := comparing(by)
			var want []int
			for _, s := range l {
				var less []api.Slip
				for _, other := range l {
					if compare(other, s) < 0 && !slices.ContainsFunc(less, func(x api.Slip) bool { return compare(x, other) == 0 }) {
						less = append(less, other)
					}
				}
				want = append(want, len(less))
			}
			ranks, e := rack.Ranks(l, by)
			wantList(t, l, ranks, e, want...)
			if e := rack.Check(ranks); e != api.OK {
				t.Error(ranks, e)
			}
		}
	}
}
