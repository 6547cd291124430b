package rack_test

import (
	"slices"
	"testing"

	"postil/api"
	"postil/leaf"
	"postil/rack"
	"postil/slip"
)

// P6.6: slips as they lie when they were sorted, and by how many passes.
func TestFile(t *testing.T) {
	l := words("sea", "old", "sea", "and")
	for boxes, passes := range map[int]int{2: 2, 3: 1, 20: 1} {
		filed, n, e := rack.File(l, api.ByWord, boxes)
		wantList(t, boxes, filed, e, l[3], l[1], l[0], l[2])
		wantOne(t, boxes, n, e, passes)
	}
	for _, by := range allBy {
		filed, n, e := rack.File(nil, by, 2)
		wantList(t, by, filed, e)
		wantOne(t, by, n, e, 0)
		filed, n, e = rack.File(l[1:3], by, 2)
		wantList(t, by, filed, e, l[1:3]...)
		wantOne(t, by, n, e, 0)
	}
	// Equal ones stay in their order, also where other things of them differ.
	a, b, c := slipOf(2, 0, 0, "a", "sea", "b"), slipOf(1, 0, 0, "b", "sea", "a"), slipOf(0, 0, 0, "b", "sea", "b")
	for by, want := range map[uint8][]api.Slip{
		api.ByOrder:  {c, b, a},
		api.ByWord:   {a, b, c},
		api.ByBefore: {a, b, c},
		api.ByAfter:  {b, a, c},
	} {
		filed, _, e := rack.File([]api.Slip{a, b, c}, by, 2)
		wantList(t, by, filed, e, want...)
	}
}

// P6.6, P6.13 and P6.14: slips that are filed are all of them, each once, equal ones as they lay, by the fewest passes; filed once more nothing changes, without a pass.
func TestFiledSlips(t *testing.T) {
	d := dice(12)
	for range 100 {
		l := d.slips(60)
		for _, by := range allBy {
			boxes := 2 + d.roll(19)
			want := slices.Clone(l)
			slices.SortStableFunc(want, comparing(by))
			filed, n, e := rack.File(l, by, boxes)
			wantList(t, l, filed, e, want...)
			ranks, _ := rack.Ranks(l, by)
			wantOne(t, l, n, e, passesOf(ranks, boxes))
			for boxes = range 19 {
				again, n, e := rack.File(filed, by, boxes+2)
				wantList(t, filed, again, e, filed...)
				wantOne(t, filed, n, e, 0)
			}
		}
	}
}

// P6.13: by order, slips of a text lie by words, and each word by its places.
func TestFiledSlipsOfATextByOrder(t *testing.T) {
	d := dice(13)
	for range 200 {
		text := d.text()
		l, e := slip.All(text, api.Cut{Width: 14, Side: api.SideEven})
		if e != api.OK {
			t.Fatal(e)
		}
		shuffle(&d, l)
		filed, _, e := rack.File(l, api.ByOrder, 2+d.roll(19))
		wantOne(t, text, len(filed), e, len(l))
		for i := 1; i < len(filed); i++ {
			a, b := filed[i-1], filed[i]
			before, _ := leaf.Number(text, a.At)
			after, _ := leaf.Number(text, b.At)
			if a.Word > b.Word || a.Word == b.Word && before >= after {
				t.Errorf("%v, then %v", a, b)
			}
		}
	}
}
