package rack_test

import (
	"cmp"
	"slices"
	"testing"

	"postil/api"
	"postil/rack"
)

// P6.4 and P6.5: what is kept of some decks, and how they are mended.
func TestMend(t *testing.T) {
	for _, x := range []struct {
		d, keep, chains []int
		moves           [][2]int
	}{
		{nil, nil, nil, nil},
		{[]int{999}, []int{0}, []int{0}, nil},
		{[]int{5, 5, 5}, []int{0, 1, 2}, []int{0, 1, 2}, nil},
		{[]int{0, 0, 7, 999}, []int{0, 1, 2, 3}, []int{0, 1, 2, 3}, nil},
		{[]int{1, 0}, []int{0}, []int{0, 0}, [][2]int{{1, 0}}},
		// Those that were moved count for those that are moved after them.
		{[]int{3, 2, 1, 0}, []int{0}, []int{0, 0, 0, 0}, [][2]int{{1, 0}, {2, 0}, {3, 0}}},
		// Of several lists the first one, by its first index that differs.
		{[]int{1, 0, 1, 0}, []int{0, 2}, []int{0, 0, 1, 1}, [][2]int{{1, 0}, {3, 1}}},
		{[]int{2, 3, 0, 1}, []int{0, 1}, []int{0, 1, 0, 1}, [][2]int{{2, 0}, {3, 1}}},
		{[]int{0, 3, 1, 2, 9, 4}, []int{0, 2, 3, 4}, []int{0, 1, 1, 2, 3, 3}, [][2]int{{1, 3}, {5, 4}}},
		{[]int{0, 5, 4, 9}, []int{0, 1, 3}, []int{0, 1, 1, 2}, [][2]int{{2, 1}}},
		// A slip is put in behind all that have the same rank, and are kept, or were moved before.
		{[]int{2, 0, 1, 2, 2, 3}, []int{1, 2, 3, 4, 5}, []int{0, 0, 1, 2, 3, 4}, [][2]int{{0, 4}}},
		{[]int{3, 3, 0, 1, 2, 4}, []int{2, 3, 4, 5}, []int{0, 1, 0, 1, 2, 3}, [][2]int{{0, 4}, {0, 4}}},
		// Those that are not moved yet do not count: what is put in behind all lies behind them.
		{[]int{9, 1, 2, 8, 3, 0}, []int{1, 2, 3}, []int{0, 0, 1, 2, 2, 0}, [][2]int{{0, 5}, {3, 2}, {4, 0}}},
		{[]int{5, 1, 4, 2, 3, 3}, []int{1, 3, 4, 5}, []int{0, 0, 1, 1, 2, 3}, [][2]int{{0, 5}, {1, 4}}},
	} {
		keep, e := rack.Keep(x.d)
		wantList(t, x.d, keep, e, x.keep...)
		chains, e := rack.Chains(x.d)
		wantList(t, x.d, chains, e, x.chains...)
		var want []api.Move
		for _, m := range x.moves {
			want = append(want, api.Move{From: m[0], To: m[1]})
		}
		moves, e := rack.Mend(x.d)
		wantList(t, x.d, moves, e, want...)
	}
}

// P6.5: how slips lie after each move.
func TestMoved(t *testing.T) {
	for _, x := range []struct {
		moves []api.Move
		want  []int
	}{
		{nil, []int{0, 1, 2, 3}},
		{[]api.Move{{From: 2, To: 2}}, []int{0, 1, 2, 3}},
		{[]api.Move{{From: 0, To: 3}}, []int{1, 2, 3, 0}},
		{[]api.Move{{From: 3, To: 0}}, []int{3, 0, 1, 2}},
		{[]api.Move{{From: 0, To: 2}}, []int{1, 2, 0, 3}},
		{[]api.Move{{From: 2, To: 1}}, []int{0, 2, 1, 3}},
		// From and To are of the deck as it lies then.
		{[]api.Move{{From: 0, To: 3}, {From: 0, To: 3}}, []int{2, 3, 0, 1}},
		{[]api.Move{{From: 0, To: 3}, {From: 3, To: 0}}, []int{0, 1, 2, 3}},
		{slices.Repeat([]api.Move{{From: 0, To: 3}}, 60), []int{0, 1, 2, 3}},
	} {
		l, e := rack.Moved(sample(), x.moves)
		wantList(t, x, l, e, x.want...)
	}
	d := dice(7)
	for range 1000 {
		deck := d.deck(60)
		var moves []api.Move
		for range min(len(deck), d.roll(61)) {
			moves = append(moves, api.Move{From: d.roll(len(deck)), To: d.roll(len(deck))})
		}
		l, e := rack.Moved(deck, moves)
		wantList(t, moves, l, e, moved(len(deck), moves)...)
	}
}

// lists is all lists of indices of a deck, in increasing order, whose ranks do not fall: longer ones first, and those of a length by their first index that differs.
func lists(d []int) [][]int {
	var all [][]int
	for bits := range 1 << len(d) {
		var l []int
		for i := range d {
			if bits>>i&1 == 1 {
				l = append(l, i)
			}
		}
		if slices.IsSorted(at(d, l)) {
			all = append(all, l)
		}
	}
	slices.SortFunc(all, func(a, b []int) int { return cmp.Or(len(b)-len(a), slices.Compare(a, b)) })
	return all
}

// chainsOf is for each slip how many are in the longest list that ends with it, less 1.
func chainsOf(d []int, all [][]int) []int {
	chains := make([]int, len(d))
	for _, l := range all {
		if n := len(l); n > 0 {
			chains[l[n-1]] = max(chains[l[n-1]], n-1)
		}
	}
	return chains
}

// mendOf is the moves by the word of the document, of a deck of which some slips are kept.
func mendOf(d, keep []int) []api.Move {
	var moves []api.Move
	settled := slices.Clone(keep)
	for slip, rank := range d {
		if slices.Contains(keep, slip) {
			continue
		}
		lie := moved(len(d), moves)
		m := api.Move{From: slices.Index(lie, slip)}
		for _, other := range lie {
			if slices.Contains(settled, other) && d[other] > rank {
				break
			}
			if other != slip {
				m.To++
			}
		}
		moves, settled = append(moves, m), append(settled, slip)
	}
	return moves
}

// P6.4, P6.5 and P6.11: all lists tried, of all small decks, and of some greater ones.
func TestKeepByAllLists(t *testing.T) {
	all := decks(5, 5)
	d := dice(8)
	for range 100 {
		all = append(all, d.deck(12))
	}
	for _, deck := range all {
		some := lists(deck)
		keep, e := rack.Keep(deck)
		wantList(t, deck, keep, e, some[0]...)
		chains, e := rack.Chains(deck)
		wantList(t, deck, chains, e, chainsOf(deck, some)...)
		moves, e := rack.Mend(deck)
		wantList(t, deck, moves, e, mendOf(deck, keep)...)
	}
}

// fewest is the fewest moves after which a deck lies right: all moves are tried.
func fewest(d []int) int {
	seen := map[string]bool{}
	name := func(d []int) string {
		var s []byte
		for _, rank := range d {
			s = append(s, byte(rank))
		}
		return string(s)
	}
	for moves, reached := 0, [][]int{d}; ; moves++ {
		var next [][]int
		for _, lie := range reached {
			if slices.IsSorted(lie) {
				return moves
			}
			for from := range lie {
				for to := range lie {
					other := at(lie, moved(len(lie), []api.Move{{From: from, To: to}}))
					if !seen[name(other)] {
						seen[name(other)] = true
						next = append(next, other)
					}
				}
			}
		}
		reached = next
	}
}

// P6.10: after the moves the deck lies right, and no fewer moves do it, of all moves tried.
func TestFewestMoves(t *testing.T) {
	all := append(decks(4, 4), falling(6), []int{5, 0, 4, 1, 3, 2}, []int{1, 0, 1, 0, 1, 0}, []int{2, 3, 0, 1, 5, 4})
	d := dice(9)
	for range 40 {
		all = append(all, d.deck(6))
	}
	for _, deck := range all {
		moves, e := rack.Mend(ranked(deck))
		wantOne(t, deck, len(moves), e, fewest(ranked(deck)))
	}
}

// ranked is a deck with ranks that are as low as can be.
func ranked(d []int) []int {
	different := slices.Compact(slices.Sorted(slices.Values(d)))
	var l []int
	for _, rank := range d {
		l = append(l, slices.Index(different, rank))
	}
	return l
}

// N6, P6.5, P6.10 and P6.11: decks of any size lie right after they were mended, by one move for each slip that is not kept; in each chain ranks fall, and there are as many chains as slips that are kept.
func TestMendedDecks(t *testing.T) {
	d := dice(10)
	all := [][]int{falling(60), make([]int, 60)}
	for range 1000 {
		all = append(all, d.deck(60))
	}
	for _, deck := range all {
		keep, e := rack.Keep(deck)
		if e != api.OK || !slices.IsSorted(at(deck, keep)) || !slices.IsSorted(keep) || len(slices.Compact(slices.Clone(keep))) < len(keep) {
			t.Error(deck, keep, e)
		}
		moves, e := rack.Mend(deck)
		wantList(t, deck, moves, e, mendOf(deck, keep)...)
		wantOne(t, deck, len(moves), e, len(deck)-len(keep))
		l, e := rack.Moved(deck, moves)
		if e != api.OK || !slices.IsSorted(at(deck, l)) {
			t.Error(deck, moves, at(deck, l), e)
		}
		chains, e := rack.Chains(deck)
		wantOne(t, deck, len(chains), e, len(deck))
		last := map[int]int{}
		for slip, chain := range chains {
			before, found := last[chain]
			if chain < 0 || found && deck[slip] >= deck[before] {
				t.Error(deck, chains)
			}
			last[chain] = slip
		}
		wantOne(t, deck, len(last), e, len(keep))
	}
}

// P6.12: if a part of a deck that lay right fell, one move less than it had slips is enough.
func TestPartThatFell(t *testing.T) {
	d := dice(11)
	most := 0
	for range 500 {
		deck := slices.Sorted(slices.Values(d.deck(60)))
		if len(deck) == 0 {
			continue
		}
		from := d.roll(len(deck))
		part := deck[from : from+1+d.roll(len(deck)-from)]
		shuffle(&d, part)
		moves, e := rack.Mend(deck)
		if e != api.OK || len(moves) > len(part)-1 {
			t.Error(deck, part, moves, e)
		}
		most = max(most, len(moves))
	}
	if most < 20 {
		t.Error(most)
	}
	for slips := 1; slips <= 60; slips++ {
		moves, e := rack.Mend(falling(slips))
		wantOne(t, slips, len(moves), e, slips-1)
	}
}
