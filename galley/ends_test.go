package galley_test

import (
	"slices"
	"testing"

	"postil/api"
	"postil/galley"
)

// P8.1 and P8.2: the ends of some galleys, and how many lines they have.
func TestEnds(t *testing.T) {
	for _, x := range []struct{ lines, want []int }{
		{[]int{1}, []int{1}},
		{[]int{2}, []int{2}},
		{[]int{3}, []int{3}},
		{[]int{4}, []int{2, 4}},
		{[]int{5}, []int{2, 3, 5}},
		{[]int{6}, []int{2, 3, 4, 6}},
		{[]int{20}, []int{2, 3, 4, 5, 6, 7, 8, 9, 10, 11, 12, 13, 14, 15, 16, 17, 18, 20}},
		{[]int{1, 1, 1}, []int{1, 2, 3}},
		{[]int{3, 3, 3}, []int{3, 6, 9}},
		{[]int{1, 4, 1, 5, 2}, []int{1, 3, 5, 6, 8, 9, 11, 13}},
		{[]int{4, 4}, []int{2, 4, 6, 8}},
	} {
		for _, height := range []int{4, 5, 40} {
			l, e := galley.Ends(galleyOf(height, x.lines...))
			wantList(t, x, l, e, x.want...)
			n, e := galley.Total(galleyOf(height, x.lines...))
			wantOne(t, x, n, e, x.want[len(x.want)-1])
		}
	}
}

// wantEnds checks the ends of a galley, and how many lines it has.
func wantEnds(t *testing.T, g api.Galley) {
	t.Helper()
	l, e := galley.Ends(g)
	wantList(t, g, l, e, endsOf(g)...)
	n, e := galley.Total(g)
	wantOne(t, g, n, e, total(g))
}

// P8.1 and P8.2: the ends of all small galleys, and of some of any size, by the word of the document.
func TestAllEnds(t *testing.T) {
	smallGalleys(3, 7, func(g api.Galley) { wantEnds(t, g) })
	d := dice(1)
	for range 300 {
		wantEnds(t, d.galley(30))
	}
	wantEnds(t, galleyOf(40, slices.Repeat([]int{20}, 30)...))
	wantEnds(t, galleyOf(4, slices.Repeat([]int{1}, 30)...))
}

// wantTurned checks that a galley which is turned round has the same ends, counted from behind all lines.
func wantTurned(t *testing.T, g api.Galley) {
	t.Helper()
	turned := api.Galley{Height: g.Height, Blocks: slices.Clone(g.Blocks)}
	slices.Reverse(turned.Blocks)
	ends, _ := galley.Ends(g)
	n, _ := galley.Total(g)
	var want []int
	for _, end := range ends {
		if end < n {
			want = append(want, n-end)
		}
	}
	slices.Reverse(want)
	l, e := galley.Ends(turned)
	wantList(t, g, l, e, append(want, n)...)
}

// P8.10: galleys that are turned round, block by block.
func TestTurnedRound(t *testing.T) {
	smallGalleys(3, 7, func(g api.Galley) { wantTurned(t, g) })
	d := dice(2)
	for range 300 {
		wantTurned(t, d.galley(30))
	}
}

// P8.2: the waste of some breakings: the last column has none.
func TestWaste(t *testing.T) {
	for _, x := range []struct {
		g      api.Galley
		breaks []int
		want   int
	}{
		{galleyOf(4, 1), []int{1}, 0},
		{galleyOf(40, 20), []int{20}, 0},
		{galleyOf(40, 20), []int{2, 20}, 38 * 38},
		{galleyOf(4, 1, 1, 1), []int{1, 2, 3}, 9 + 9},
		{galleyOf(4, 1, 1, 1), []int{2, 3}, 4},
		{galleyOf(4, 1, 1, 1), []int{1, 3}, 9},
		{galleyOf(4, 1, 1, 1), []int{3}, 0},
		{galleyOf(4, 4, 4), []int{4, 8}, 0},
		{galleyOf(4, 4, 4), []int{2, 4, 6, 8}, 4 + 4 + 4},
		{galleyOf(5, 3, 2, 6, 4), []int{3, 5, 7, 8, 9, 11, 13, 15}, 4 + 9 + 9 + 16 + 16 + 9 + 9},
		{galleyOf(20, 19, 20, 1), []int{19, 39, 40}, 1},
	} {
		n, e := galley.Waste(x.g, x.breaks)
		wantOne(t, x, n, e, x.want)
	}
}

// P8.2: the waste of all breakings of small galleys, and of some breakings of any galleys.
func TestAllWaste(t *testing.T) {
	smallGalleys(3, 5, func(g api.Galley) {
		for _, breaks := range breakings(g) {
			n, e := galley.Waste(g, breaks)
			wantOne(t, breaks, n, e, wasteOf(g, 0, breaks))
		}
	})
	d := dice(3)
	for range 1000 {
		g := d.galley(30)
		breaks := d.breaks(g)
		n, e := galley.Waste(g, breaks)
		wantOne(t, breaks, n, e, wasteOf(g, 0, breaks))
	}
}
