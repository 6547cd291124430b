package galley

import (
	"iter"
	"slices"

	"postil/api"
)

// way is a way to break lines between a place and a goal: the place to which the first column leads, and what all of these columns waste, at least.
type way struct{ to, waste int }

// ways returns a closure that tells the best way from a place to a goal, which may be behind the place or before it: the zero way, if the place is the goal itself.
func (g galley) ways(goal int) func(from int) way {
	known := map[int]way{goal: {}}
	var best func(from int) way
	best = func(from int) way {
		w, isKnown := known[from]
		if !isKnown {
			w = first(g.leading(from, goal, best), func(a, b way) bool { return a.waste < b.waste })
			known[from] = w
		}
		return w
	}
	return best
}

// leading yields a way for each column that leads from a place towards a goal, in the order of the places to which they lead. There is always one, as the next place is 3 lines away at most, and each column has room for 4.
func (g galley) leading(from, goal int, best func(from int) way) iter.Seq[way] {
	return func(yield func(way) bool) {
		towards := api.Span{Lo: min(from, goal), Hi: max(from, goal)}
	place:
		for _, to := range g.places {
			if to == from || !within(towards, to) {
				continue place
			}
			column := between(from, to)
			if many(column) > g.Height {
				continue place
			}
			if !yield(way{to, g.waste(column) + best(to).waste}) {
				return
			}
		}
	}
}

// first returns the one of some things that goes ahead of all others, and of several such ones the first one.
func first[T any](l iter.Seq[T], ahead func(a, b T) bool) T {
	var best T
	found := false
	for x := range l {
		if !found || ahead(x, best) {
			best, found = x, true
		}
	}
	return best
}

// breaks returns behind how many lines columns end that waste the least, from a place to one behind it: of several such lists the first one.
func (g galley) breaks(from, to int) []int {
	best := g.ways(to)
	var l []int
	for w := best(from); w != (way{}); w = best(w.to) {
		l = append(l, w.to)
	}
	return l
}

// proof returns for each place what columns waste, at least, of which the last one ends there.
func (g galley) proof() []int {
	best := g.ways(0)
	var l []int
	for _, place := range g.places {
		l = append(l, best(place).waste)
	}
	return l
}

// fix returns the galley in which a block has another number of lines, and its breaking in which columns before and behind some stay: it is those from one to another one that are broken anew.
func (b breaking) fix(block, lines int) (x api.Galley, l []int, from, to int) {
	x = api.Galley{Height: b.Height, Blocks: slices.Clone(b.Blocks)}
	x.Blocks[block].Lines = lines
	work, _ := begin(x)
	more := lines - b.Blocks[block].Lines
	// Columns lead from any place to any other one behind it, so that no column behind the last one of the block has to be broken anew.
	from, to = b.columnsOf(block)
	for _, column := range b.columns[:from] {
		l = append(l, column.Hi+1)
	}
	l = append(l, work.breaks(b.columns[from].Lo, b.columns[to].Hi+1+more)...)
	for _, column := range b.columns[to+1:] {
		l = append(l, column.Hi+1+more)
	}
	return x, l, from, to
}
