package slip_test

import (
	"slices"
	"testing"

	"postil/api"
	"postil/slip"
)

// The examples of the chapter, row by row.
func TestExamplesOfSlips(t *testing.T) {
	is := slipOf(place(0, 0, 2), "sea", "is", "old old")
	for _, x := range []struct {
		side uint8
		want api.Slip
	}{
		{api.SideEven, is},
		{api.SideEven, slipOf(place(0, 0, 1), "the", "sea", "is old")},
		{api.SideLeft, slipOf(place(0, 1, 0), "sea is old", "old", "")},
		{api.SideRight, slipOf(place(0, 1, 0), "is old", "old", "the")},
		{api.SideEven, slipOf(place(0, 1, 0), "is old", "old", "the")},
	} {
		s, e := slip.Make(sample(), cut(14, x.side), x.want.At)
		wantOne(t, x.side, s, e, x.want)
	}
	for _, side := range allSides {
		all, e := slip.All(sample(), cut(14, side))
		if len(all) != 10 || e != api.OK {
			t.Error(side, all, e)
		}
		part, e := slip.Part(sample(), cut(14, side), place(0, 1, 2), place(1, 0, 0))
		if len(part) != 2 || !slices.Equal(part, all[6:8]) || e != api.OK {
			t.Error(side, part, e)
		}
	}
	is.After = "old"
	wrong, e := slip.Wrong(sample(), cut(14, api.SideEven), is)
	wantOne(t, is, wrong, e, 4)
}

func TestExamplesOfPlaces(t *testing.T) {
	from, e := slip.Where(sample(), slipOf(place(5, 5, 5), "the", "sea", ""))
	wantList(t, "sea", from, e, place(0, 0, 1), place(0, 1, 2))
	to, e := slip.Moved(sample(), sampleCopy(), place(0, 1, 2))
	wantOne(t, "moved", to, e, place(0, 1, 1))
	to, e = slip.Moved(sample(), sampleCopy(), place(0, 1, 1))
	if to != place(0, 0, 0) || e != api.ErrNone {
		t.Error(to, e)
	}
}
