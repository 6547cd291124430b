package chart_test

import (
	"testing"

	"postil/api"
	"postil/chart"
)

// The examples of the chapter, row by row.
func TestExamplesOfReferences(t *testing.T) {
	base := sample()
	gaps, err := chart.Gaps(base, five())
	wantList(t, "Gaps of 5", gaps, err, place(1, 0, 0))
	gaps, err = chart.Gaps(base, six())
	wantList(t, "Gaps of 6", gaps, err)
	if r, err := chart.Refer(base, five(), place(0, 1, 2)); r != ref(2, 5, 3) || err != api.OK {
		t.Error(r, err)
	}
	if r, err := chart.Refer(base, six(), place(0, 1, 2)); r != ref(7, 2, 3) || err != api.OK {
		t.Error(r, err)
	}
	if r, err := chart.Refer(base, five(), place(1, 0, 1)); r != ref(0, 0, 0) || err != api.ErrNone {
		t.Error(r, err)
	}
	if p, err := chart.Lead(base, five(), ref(2, 5, 3)); p != place(0, 1, 2) || err != api.OK {
		t.Error(p, err)
	}
	if p, err := chart.Lead(base, five(), ref(2, 5, 4)); p != place(0, 0, 0) || err != api.ErrNone {
		t.Error(p, err)
	}
	near, err := chart.Near(base, five(), place(1, 0, 1))
	wantList(t, "Near", near, err, place(0, 1, 2))
	for _, r := range []api.Ref{ref(1, 9, 1), ref(1, 1, 9)} {
		near, err = chart.Close(base, five(), r)
		wantList(t, "Close", near, err, place(0, 0, 3), place(0, 1, 0))
	}
}

func TestExamplesOfTwoEditions(t *testing.T) {
	base := sample()
	passes, err := chart.Cross(base, five(), six())
	wantList(t, "Cross of 5 and 6", passes, err, pass(1, 1, 7, 1, 1), pass(2, 5, 7, 2, 1))
	passes, err = chart.Cross(base, six(), five())
	wantList(t, "Cross of 6 and 5", passes, err, pass(7, 1, 1, 1, 1), pass(7, 2, 2, 5, 1))
	if r, err := chart.Turn(base, five(), six(), ref(2, 5, 3)); r != ref(7, 2, 3) || err != api.OK {
		t.Error(r, err)
	}
	if r, err := chart.Turn(base, six(), five(), ref(3, 1, 1)); r != ref(0, 0, 0) || err != api.ErrNone {
		t.Error(r, err)
	}
}

func TestExamplesOfStretches(t *testing.T) {
	base := sample()
	split, err := chart.Split(base, six(), 7, 2, 9)
	wantEdition(t, "Split", split, err, edition(6, stretch(0, 0, 1, 7, 1), stretch(0, 1, 2, 9, 1), stretch(1, 0, 1, 3, 1)))
	joined, err := chart.Join(base, split, 9, 7)
	wantEdition(t, "Join", joined, err, six())
	clashing := edition(1, stretch(0, 0, 2, 1, 1), stretch(0, 1, 2, 2, 1))
	if a, b, err := chart.Clash(base, clashing); a != 0 || b != 1 || err != api.OK {
		t.Error(a, b, err)
	}
}
