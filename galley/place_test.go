package galley_test

import (
	"testing"

	"postil/api"
	"postil/galley"
)

// P8.4: lines, blocks and columns of some breakings.
func TestPlaces(t *testing.T) {
	for _, x := range []struct {
		g       api.Galley
		breaks  []int
		columns [][2]int
		torn    []int
	}{
		{galleyOf(4, 1), []int{1}, [][2]int{{0, 0}}, nil},
		{galleyOf(4, 4), []int{4}, [][2]int{{0, 0}}, nil},
		{galleyOf(4, 4), []int{2, 4}, [][2]int{{0, 1}}, []int{0}},
		{galleyOf(4, 1, 1, 1), []int{1, 2, 3}, [][2]int{{0, 0}, {1, 1}, {2, 2}}, nil},
		{galleyOf(4, 1, 1, 1), []int{1, 3}, [][2]int{{0, 0}, {1, 1}, {1, 1}}, nil},
		// A block of several columns, with columns that are all its own.
		{galleyOf(4, 1, 12, 1), []int{3, 6, 9, 11, 14}, [][2]int{{0, 0}, {0, 4}, {4, 4}}, []int{1}},
		{galleyOf(4, 4, 4, 4), []int{2, 6, 10, 12}, [][2]int{{0, 1}, {1, 2}, {2, 3}}, []int{0, 1, 2}},
		{galleyOf(4, 4, 4, 4), []int{4, 6, 8, 12}, [][2]int{{0, 0}, {1, 2}, {3, 3}}, []int{1}},
	} {
		for block, want := range x.columns {
			first, last, e := galley.Columns(x.g, x.breaks, block)
			wantOne(t, x, [2]int{first, last}, e, want)
		}
		l, e := galley.Torn(x.g, x.breaks)
		wantList(t, x, l, e, x.torn...)
	}
}

// wantPlaces checks where all lines and blocks are.
func wantPlaces(t *testing.T, g api.Galley, breaks []int) {
	t.Helper()
	for n := range total(g) {
		wantColumn, wantRow := columnOf(breaks, n)
		column, row, e := galley.At(g, breaks, n)
		wantOne(t, breaks, [2]int{column, row}, e, [2]int{wantColumn, wantRow})
	}
	var torn []int
	for block := range g.Blocks {
		wantFirst, wantLast := columnsOf(g, breaks, block)
		first, last, e := galley.Columns(g, breaks, block)
		wantOne(t, breaks, [2]int{first, last}, e, [2]int{wantFirst, wantLast})
		if wantFirst < wantLast {
			torn = append(torn, block)
		}
	}
	l, e := galley.Torn(g, breaks)
	wantList(t, breaks, l, e, torn...)
}

// P8.4: all breakings of small galleys, and some of any galleys.
func TestAllPlaces(t *testing.T) {
	smallGalleys(3, 5, func(g api.Galley) {
		if g.Height > 5 {
			return
		}
		for _, breaks := range breakings(g) {
			wantPlaces(t, g, breaks)
		}
	})
	d := dice(8)
	for range 30 {
		g := d.galley(30)
		wantPlaces(t, g, d.breaks(g))
	}
}
