package rack

import (
	"iter"
	"slices"

	"postil/api"
)

// keep returns the indices of the most slips whose ranks do not fall, in increasing order, and of several such lists the first one.
func (d deck) keep() []int {
	known := map[int][]int{}
	var behind func(slip int) []int
	behind = func(slip int) []int {
		most, isKnown := known[slip]
		if !isKnown {
			most = first(d.lists(slip, behind), func(a, b []int) bool { return len(a) > len(b) })
			known[slip] = most
		}
		return most
	}
	return behind(-1)
}

// lists yields, for each slip behind one that may be kept with it, this slip and what is kept behind it, from the first slip on. Behind -1 are all slips.
func (d deck) lists(slip int, behind func(slip int) []int) iter.Seq[[]int] {
	return func(yield func([]int) bool) {
		for next := slip + 1; next < len(d.ranks); next++ {
			if slip >= 0 && d.ranks[next] < d.ranks[slip] {
				continue
			}
			if !yield(slices.Concat([]int{next}, behind(next))) {
				return
			}
		}
	}
}

// first returns the one of some things that goes ahead of all others, and of several such ones the first one.
func first[T any](l iter.Seq[T], ahead func(a, b T) bool) T {
	var best T
	found := false
	for x := range l {
		if !found || ahead(x, best) {
			best, found = x, true
		}
	}
	return best
}

// chains returns for each slip how many, at most, come before it in lists that end with it and whose ranks do not fall.
func (d deck) chains() []int {
	l := make([]int, len(d.ranks))
	for slip, rank := range d.ranks {
		for before := range slip {
			if d.ranks[before] <= rank {
				l[slip] = max(l[slip], l[before]+1)
			}
		}
	}
	return l
}

// mend returns the fewest moves after which the deck lies right.
func (d deck) mend() []api.Move {
	open := map[int]bool{}
	for slip := range len(d.ranks) {
		open[slip] = true
	}
	for _, slip := range d.keep() {
		delete(open, slip)
	}
	var moves []api.Move
	lie := indices(len(d.ranks))
	for slip := range len(d.ranks) {
		if !open[slip] {
			continue
		}
		m := api.Move{From: slices.Index(lie, slip)}
		lie = slices.Delete(lie, m.From, m.From+1)
		m.To = slices.IndexFunc(lie, func(other int) bool { return !open[other] && d.ranks[other] > d.ranks[slip] })
		if m.To < 0 {
			m.To = len(lie)
		}
		lie = slices.Insert(lie, m.To, slip)
		delete(open, slip)
		moves = append(moves, m)
	}
	return moves
}

// moved returns how slips lie after some moves, by their indices.
func (d deck) moved(moves []api.Move) []int {
	lie := indices(len(d.ranks))
	for _, m := range moves {
		slip := lie[m.From]
		lie = slices.Delete(lie, m.From, m.From+1)
		lie = slices.Insert(lie, m.To, slip)
	}
	return lie
}
