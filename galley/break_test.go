package galley_test

import (
	"slices"
	"testing"

	"postil/api"
	"postil/galley"
)

// P8.3: some breakings with the least waste, with what proves it.
func TestBreak(t *testing.T) {
	for _, x := range []struct {
		g           api.Galley
		want, proof []int
	}{
		{galleyOf(4, 1), []int{1}, []int{0, 0}},
		{galleyOf(4, 3), []int{3}, []int{0, 0}},
		{galleyOf(4, 4), []int{4}, []int{0, 4, 0}},
		{galleyOf(4, 5), []int{3, 5}, []int{0, 4, 1, 1}},
		{galleyOf(4, 3, 1, 3), []int{4, 7}, []int{0, 1, 0, 0}},
		{galleyOf(4, 3, 3, 3), []int{3, 6, 9}, []int{0, 1, 2, 2}},
		{galleyOf(4, 6, 4), []int{4, 8, 10}, []int{0, 4, 1, 0, 2, 0, 0}},
		// The last column has no waste, however short it is.
		{galleyOf(4, 3, 1, 1), []int{4, 5}, []int{0, 1, 0, 0}},
		{galleyOf(4, 3, 3, 1), []int{3, 7}, []int{0, 1, 2, 1}},
		{galleyOf(40, 20, 19, 2), []int{39, 41}, append(append([]int{0}, squares(38, 22)...), append([]int{400}, append(squares(18, 3), 1, 1)...)...)},
		{galleyOf(5, 4, 2, 3), []int{4, 9}, []int{0, 9, 1, 10, 1}},
		// 3 7 9 wastes as little as 4 7 9, and is before it.
		{galleyOf(4, 7, 2), []int{3, 7, 9}, []int{0, 4, 1, 0, 5, 1, 1}},
		{galleyOf(6, 9, 2), []int{6, 11}, []int{0, 16, 9, 4, 1, 0, 13, 5, 0}},
	} {
		l, e := galley.Break(x.g)
		wantList(t, x.g, l, e, x.want...)
		l, e = galley.Proof(x.g)
		wantList(t, x.g, l, e, x.proof...)
	}
}

// squares is the squares of all numbers from one down to another one.
func squares(from, to int) []int {
	var l []int
	for n := from; n >= to; n-- {
		l = append(l, n*n)
	}
	return l
}

// wantBreak checks a breaking with the least waste, and what proves it, against all lists of where columns may end.
func wantBreak(t *testing.T, g api.Galley) {
	t.Helper()
	want, least := leastOf(g, 0, breakings(g))
	l, e := galley.Break(g)
	wantList(t, g, l, e, want...)
	proof := []int{0}
	for _, end := range endsOf(g) {
		_, n := leastOf(g, 0, lists(g, 0, end))
		proof = append(proof, n)
	}
	l, e = galley.Proof(g)
	wantList(t, g, l, e, proof...)
	wantOne(t, g, l[len(l)-1], e, least)
}

// P8.3 and P8.7: all small galleys, and some with more lines.
func TestNoBreakingHasLessWaste(t *testing.T) {
	smallGalleys(3, 5, func(g api.Galley) { wantBreak(t, g) })
	smallGalleys(2, 8, func(g api.Galley) { wantBreak(t, g) })
	d := dice(4)
	for range 200 {
		wantBreak(t, d.smallGalley(18))
	}
}

// greatGalleys calls f with galleys of any size, and with the greatest ones.
func greatGalleys(f func(g api.Galley)) {
	d := dice(5)
	for range 200 {
		f(d.galley(30))
	}
	for _, height := range []int{4, 5, 20, 39, 40} {
		for lines := range 20 {
			f(galleyOf(height, slices.Repeat([]int{lines + 1}, 30)...))
		}
	}
}

// P8.7: what may end somewhere costs no more than what ends before, and the column between; some of these cost just as much, and so does the breaking.
func TestProofProves(t *testing.T) {
	greatGalleys(func(g api.Galley) {
		proof, e := galley.Proof(g)
		ends := append([]int{0}, endsOf(g)...)
		wantOne(t, g, len(proof), e, len(ends))
		wantOne(t, g, proof[0], e, 0)
		for i, end := range ends[1:] {
			least := proof[i+1] + 1
			for j, begin := range ends[:i+1] {
				if end-begin <= g.Height {
					least = min(least, proof[j]+wasteOf(g, begin, []int{end}))
				}
			}
			wantOne(t, g, proof[i+1], e, least)
		}
		breaks, e := galley.Break(g)
		wantOne(t, g, wasteOf(g, 0, breaks), e, proof[len(proof)-1])
	})
}

// behind is the least waste of columns from behind each number of lines on.
func behind(g api.Galley) map[int]int {
	last := total(g)
	costs := map[int]int{last: 0}
	ends := append([]int{0}, endsOf(g)...)
	for i := len(ends) - 2; i >= 0; i-- {
		costs[ends[i]] = 1 << 40
		for _, end := range ends[i+1:] {
			if end-ends[i] <= g.Height {
				costs[ends[i]] = min(costs[ends[i]], wasteOf(g, ends[i], []int{end})+costs[end])
			}
		}
	}
	return costs
}

// P8.3 and P8.8: there is a breaking of each galley, it is valid, and no one that is before it wastes as little.
func TestBreakIsTheFirstOne(t *testing.T) {
	greatGalleys(func(g api.Galley) {
		breaks, e := galley.Break(g)
		wantOne(t, g, breaks[len(breaks)-1], e, total(g))
		costs := behind(g)
		last := 0
		for _, end := range breaks {
			for n := last + 1; n < end; n++ {
				if mayEnd(g, n) && wasteOf(g, last, []int{n})+costs[n] <= costs[last] {
					t.Errorf("%v: %v, but a column may end behind %d lines", g, breaks, n)
				}
			}
			if !mayEnd(g, end) || end <= last || end > last+g.Height || wasteOf(g, last, []int{end})+costs[end] != costs[last] {
				t.Errorf("%v: %v, but no column may end behind %d lines", g, breaks, end)
			}
			last = end
		}
		n, e := galley.Waste(g, breaks)
		wantOne(t, g, n, e, costs[0])
	})
}

// P8.8: there is a breaking of each small galley, also of the lowest ones.
func TestThereIsABreaking(t *testing.T) {
	smallGalleys(3, 8, func(g api.Galley) {
		breaks, e := galley.Break(g)
		wantOne(t, g, len(breaks) > 0, e, true)
		_, e = galley.Waste(g, breaks)
		wantOne(t, g, 0, e, 0)
	})
}

// wantTogether checks that no heading of a galley is alone at the foot of a column, and no last line alone at its head, that columns are not too long, and that each line is in one of them.
func wantTogether(t *testing.T, g api.Galley, breaks []int) {
	t.Helper()
	all := lines(g)
	rows := make([]int, len(breaks))
	lastColumn := 0
	for n := range all {
		column, row, e := galley.At(g, breaks, n)
		if e != api.OK || column < lastColumn || column > lastColumn+1 || row != rows[column] || row >= g.Height {
			t.Fatalf("%v, %v: line %d in column %d, row %d, %v", g, breaks, n, column, row, e)
		}
		lastColumn = column
		rows[column]++
	}
	wantOne(t, breaks, lastColumn, api.OK, len(breaks)-1)
	columnOf := func(n int) int {
		column, _, _ := galley.At(g, breaks, n)
		return column
	}
	for n, l := range all {
		long := g.Blocks[l.block].Lines
		if long > 1 && l.before == 0 && columnOf(n) != columnOf(n+1) {
			t.Errorf("%v, %v: the heading in line %d is alone", g, breaks, n)
		}
		if long > 1 && l.before == long-1 && columnOf(n) != columnOf(n-1) {
			t.Errorf("%v, %v: the last line %d is alone", g, breaks, n)
		}
	}
}

// P8.6: in each breaking of small galleys, and in those that Break returns.
func TestNoLineIsAlone(t *testing.T) {
	smallGalleys(3, 5, func(g api.Galley) {
		if g.Height > 5 {
			return
		}
		for _, breaks := range breakings(g) {
			wantTogether(t, g, breaks)
		}
	})
	smallGalleys(3, 7, func(g api.Galley) {
		breaks, _ := galley.Break(g)
		wantTogether(t, g, breaks)
	})
	d := dice(6)
	for range 30 {
		g := d.galley(30)
		breaks, _ := galley.Break(g)
		wantTogether(t, g, breaks)
		wantTogether(t, g, d.breaks(g))
	}
}

// P8.11: with blocks behind all others nothing changes of what is proved before them.
func TestBlocksBehind(t *testing.T) {
	want := func(g api.Galley, more []api.Block) {
		t.Helper()
		proof, _ := galley.Proof(g)
		longer := api.Galley{Height: g.Height, Blocks: slices.Concat(g.Blocks, more)}
		l, e := galley.Proof(longer)
		if len(l) <= len(proof) {
			t.Fatal(g, longer, proof, l)
		}
		wantList(t, longer, l[:len(proof)-1], e, proof[:len(proof)-1]...)
		ends, _ := galley.Ends(g)
		l, e = galley.Ends(longer)
		wantList(t, longer, l[:len(ends)], e, ends...)
	}
	smallGalleys(2, 7, func(g api.Galley) {
		smallGalleys(1, 7, func(more api.Galley) { want(g, more.Blocks) })
	})
	d := dice(7)
	for range 100 {
		want(d.galley(15), d.galley(15).Blocks)
	}
}
