package galley_test

import (
	"slices"
	"testing"

	"postil/api"
	"postil/galley"
)

// fixed is what Fix returns.
type fixed struct {
	x        api.Galley
	l        []int
	from, to int
}

// fixOf tries all breakings of the galley in which a block has another number of lines: the word of the document, for one column to after another.
func fixOf(g api.Galley, breaks []int, block, lines int, all func(x api.Galley) [][]int) fixed {
	x := changed(g, block, lines)
	from, last := columnsOf(g, breaks, block)
	moved := lines - g.Blocks[block].Lines
	begun := 0
	if from > 0 {
		begun = breaks[from-1]
	}
	for to := last; to < len(breaks); to++ {
		var behind []int
		for _, end := range breaks[to:] {
			behind = append(behind, end+moved)
		}
		var found [][]int
		for _, l := range all(x) {
			if between := len(l) - len(behind); between >= from && slices.Equal(l[:from], breaks[:from]) && slices.Equal(l[between:], behind) {
				found = append(found, l)
			}
		}
		best, least := []int(nil), 0
		for _, l := range found {
			waste := wasteOf(x, begun, l[from:len(l)-len(behind)+1])
			if best == nil || waste < least {
				best, least = l, waste
			}
		}
		if best != nil {
			return fixed{x, best, from, to}
		}
	}
	return fixed{}
}

func wantFix(t *testing.T, g api.Galley, breaks []int, block, lines int, want fixed) {
	t.Helper()
	x, l, from, to, e := galley.Fix(g, breaks, block, lines)
	wantGalley(t, []any{g, breaks, block, lines}, x, e, want.x)
	wantList(t, []any{g, breaks, block, lines}, l, e, want.l...)
	wantOne(t, []any{g, breaks, block, lines}, [2]int{from, to}, e, [2]int{want.from, want.to})
}

// P8.5: some corrections.
func TestFix(t *testing.T) {
	for _, x := range []struct {
		g            api.Galley
		breaks       []int
		block, lines int
		l            []int
		from, to     int
	}{
		{galleyOf(4, 1), []int{1}, 0, 1, []int{1}, 0, 0},
		{galleyOf(4, 1), []int{1}, 0, 9, []int{3, 7, 9}, 0, 0},
		{galleyOf(4, 9), []int{2, 5, 7, 9}, 0, 1, []int{1}, 0, 3},
		// With as many lines the columns of the block are broken anew, too, and those before and behind stay as bad as they are.
		{galleyOf(4, 4, 4, 4, 4), []int{2, 4, 6, 8, 10, 12, 14, 16}, 1, 4, []int{2, 4, 8, 10, 12, 14, 16}, 2, 3},
		{galleyOf(5, 3, 2, 6, 4), []int{5, 9, 13, 15}, 1, 2, []int{5, 9, 13, 15}, 0, 0},
		// The columns that are broken anew end behind other blocks, too.
		{galleyOf(5, 3, 2, 6, 4), []int{5, 9, 13, 15}, 2, 2, []int{5, 9, 11}, 1, 2},
		{galleyOf(5, 3, 2, 6, 4), []int{5, 9, 13, 15}, 2, 1, []int{5, 8, 10}, 1, 2},
		{galleyOf(5, 3, 2, 6, 4), []int{5, 9, 13, 15}, 0, 1, []int{3, 7, 11, 13}, 0, 0},
		{galleyOf(5, 3, 2, 6, 4), []int{5, 9, 13, 15}, 3, 10, []int{5, 9, 14, 19, 21}, 2, 3},
		// The last column of all has no waste, but the last one that is broken anew has.
		{galleyOf(4, 1, 1), []int{2}, 1, 4, []int{3, 5}, 0, 0},
		{galleyOf(4, 1, 1, 4), []int{2, 6}, 1, 4, []int{3, 5, 9}, 0, 0},
		{galleyOf(6, 2, 2, 2), []int{4, 6}, 0, 5, []int{3, 7, 9}, 0, 0},
		{galleyOf(6, 2, 2), []int{4}, 0, 5, []int{5, 7}, 0, 0},
	} {
		wantFix(t, x.g, x.breaks, x.block, x.lines, fixed{changed(x.g, x.block, x.lines), x.l, x.from, x.to})
	}
}

// remember is breakings, which does not try a galley twice.
func remember() func(x api.Galley) [][]int {
	type key struct {
		height int
		lines  [4]int
	}
	known := map[key][][]int{}
	return func(x api.Galley) [][]int {
		k := key{height: x.Height}
		for i, b := range x.Blocks {
			k.lines[i] = b.Lines
		}
		if known[k] == nil {
			known[k] = breakings(x)
		}
		return known[k]
	}
}

// P8.5 and P8.9: all corrections of small galleys, whatever the breaking is, held against all breakings: with fewer columns broken anew it cannot be done.
func TestCorrectionsMoveLittle(t *testing.T) {
	all := remember()
	smallGalleys(3, 4, func(g api.Galley) {
		if g.Height > 5 {
			return
		}
		for _, breaks := range all(g) {
			for block := range g.Blocks {
				for lines := 1; lines <= 7; lines++ {
					wantFix(t, g, breaks, block, lines, fixOf(g, breaks, block, lines, all))
				}
			}
		}
	})
	d := dice(9)
	for range 300 {
		g := d.smallGalley(16)
		breaks := d.breaks(g)
		block, lines := d.roll(len(g.Blocks)), 1+d.roll(8)
		wantFix(t, g, breaks, block, lines, fixOf(g, breaks, block, lines, all))
	}
}

// P8.5 and P8.9: what stays of great galleys, and what is broken anew wastes the least.
func TestCorrectionsOfGreatGalleys(t *testing.T) {
	d := dice(10)
	for range 500 {
		g := d.galley(30)
		breaks := d.breaks(g)
		block, lines := d.roll(len(g.Blocks)), 1+d.roll(20)
		x, l, from, to, e := galley.Fix(g, breaks, block, lines)
		moved := lines - g.Blocks[block].Lines
		wantGalley(t, g, x, e, changed(g, block, lines))
		first, last := columnsOf(g, breaks, block)
		wantOne(t, g, [2]int{from, to}, e, [2]int{first, last})
		stay := len(l) - (len(breaks) - to - 1)
		wantList(t, g, l[:from], e, breaks[:from]...)
		for i, end := range breaks[to:] {
			wantOne(t, g, l[stay-1+i], e, end+moved)
		}
		_, e = galley.Waste(x, l)
		wantOne(t, l, 0, e, 0)
		begun := 0
		if from > 0 {
			begun = breaks[from-1]
		}
		wantOne(t, g, wasteOf(x, begun, l[from:stay]), e, leastBetween(x, begun, breaks[to]+moved))
	}
}

// leastBetween is the least waste of columns from behind so many lines to behind so many.
func leastBetween(g api.Galley, from, to int) int {
	costs := map[int]int{from: 0}
	ends := append([]int{0}, endsOf(g)...)
	for _, end := range ends {
		for _, begin := range ends {
			before, isKnown := costs[begin]
			if !isKnown || end <= begin || end > begin+g.Height || end > to {
				continue
			}
			cost := before + wasteOf(g, begin, []int{end})
			if known, isKnown := costs[end]; !isKnown || cost < known {
				costs[end] = cost
			}
		}
	}
	return costs[to]
}
