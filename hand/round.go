package hand

import (
	"cmp"
	"iter"
	"slices"

	"postil/api"
	"postil/leaf"
)

// round is a round at work: it has the lines of its text by their numbers, and the places of their first words.
type round struct {
	api.Round
	lines  [][]string
	places []api.Place
}

// begin returns a round at work: leaf.Check's error of its text, and ErrRound unless it is valid.
func begin(r api.Round) (round, api.Errno) {
	if e := leaf.Check(r.Text); e != api.OK {
		return round{}, e
	}
	work := round{Round: r}
	for i, chapter := range r.Text.Chapters {
		for n, line := range chapter.Lines {
			work.lines = append(work.lines, line)
			work.places = append(work.places, api.Place{Chapter: i, Line: n})
		}
	}
	if !areHelpers(r.Helpers) || !work.areShares(r.Shares) || !work.areSheets(r.Sheets) {
		return round{}, api.ErrRound
	}
	return work, api.OK
}

// linesOf yields the lines of a part with their numbers, in order.
func (r round) linesOf(part int) iter.Seq2[int, []string] {
	return func(yield func(int, []string) bool) {
		s := r.Shares[part]
		for n := s.From; n <= s.To; n++ {
			if !yield(n, r.lines[n]) {
				return
			}
		}
	}
}

// parts returns all parts of which something is so, in increasing order.
func (r round) parts(isSo func(part int) bool) []int { return told(len(r.Shares), isSo) }

// outside returns the numbers of all lines that are in none of some parts, in increasing order.
func (r round) outside(parts []int) []int {
	inside := map[int]bool{}
	for _, part := range parts {
		for n := range r.linesOf(part) {
			inside[n] = true
		}
	}
	return told(len(r.lines), func(n int) bool { return !inside[n] })
}

// told returns all numbers below a limit of which something is so, in increasing order.
func told(limit int, isSo func(n int) bool) []int {
	var l []int
	for n := range limit {
		if isSo(n) {
			l = append(l, n)
		}
	}
	return l
}

// first returns the one of some things that goes ahead of all others, and of several such ones the first one.
func first[T any](l iter.Seq[T], ahead func(a, b T) bool) T {
	var best T
	found := false
	for x := range l {
		if !found || ahead(x, best) {
			best, found = x, true
		}
	}
	return best
}

func (r round) isThere(part int) bool { return isIndex(part, len(r.Shares)) }

func (r round) isBack(part int) bool { return r.Sheets[part].Back }

// isFull tells whether the sheet of a part has as many lines as the part.
func (r round) isFull(part int) bool {
	s := r.Shares[part]
	return len(r.Sheets[part].Lines) == s.To-s.From+1
}

func (r round) isTorn(part int) bool { return r.isBack(part) && !r.isFull(part) }

// pairs returns all pairs of parts that differ, in their order.
func (r round) pairs() [][2]int {
	var l [][2]int
	// Only parts one behind the other share lines.
	for next := 1; next < len(r.Shares); next++ {
		if pair := [2]int{next - 1, next}; r.differ(pair) {
			l = append(l, pair)
		}
	}
	return l
}

// differ tells whether two parts, one behind the other, differ.
func (r round) differ(pair [2]int) bool {
	for _, part := range pair {
		if !r.isBack(part) || !r.isFull(part) {
			return false
		}
	}
	for n := range r.linesOf(pair[1]) {
		if n <= r.Shares[pair[0]].To && !slices.Equal(r.written(pair[0], n), r.written(pair[1], n)) {
			return true
		}
	}
	return false
}

// written returns the line with a number as the sheet of a part has it: the part is back, and is not torn.
func (r round) written(part, n int) []string {
	return r.Sheets[part].Lines[n-r.Shares[part].From]
}

// set is some parts, each one a bit.
type set uint

func (s set) has(part int) bool { return s>>part&1 == 1 }

// again returns the parts that are to be written again.
func (r round) again() []int {
	return first(r.enough(), func(a, b []int) bool {
		return cmp.Or(cmp.Compare(len(a), len(b)), slices.Compare(a, b)) < 0
	})
}

// enough yields lists of parts with which all that are torn, and one of each two that differ, are written again; none that is longer than one before it.
func (r round) enough() iter.Seq[[]int] {
	return func(yield func([]int) bool) {
		pairs, shortest := r.pairs(), len(r.Shares)
	sets:
		for bits := range 1 << len(r.Shares) {
			some := set(bits)
			l := r.parts(some.has)
			if len(l) > shortest {
				continue sets
			}
			for part := range r.Shares {
				left := !some.has(part)
				torn := r.isTorn(part)
				differ := !some.has(part+1) && slices.Contains(pairs, [2]int{part, part + 1})
				if left && (torn || differ) {
					continue sets
				}
			}
			shortest = len(l)
			if !yield(l) {
				return
			}
		}
	}
}

// apart returns pairs of parts that differ, no part in two of them: each one that can be taken, in their order.
func (r round) apart() [][2]int {
	free := map[int]bool{}
	for part := range r.Shares {
		free[part] = true
	}
	var l [][2]int
	for _, pair := range r.pairs() {
		if free[pair[0]] && free[pair[1]] {
			l = append(l, pair)
			delete(free, pair[0])
			delete(free, pair[1])
		}
	}
	return l
}

// sure returns all parts that are back and need not be written again, in increasing order.
func (r round) sure() []int {
	again := r.again()
	return r.parts(func(part int) bool { return r.isBack(part) && !slices.Contains(again, part) })
}
