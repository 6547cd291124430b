package rack

import (
	"cmp"
	"iter"
	"slices"

	"postil/api"
)

// runs is the number of the run of each slip of a deck, by its index.
type runs []int

// deck is a deck at work: it has the runs of its slips, and their ranks.
type deck struct {
	runs
	ranks []int
}

// begin returns a deck at work: ErrDeck unless it is valid.
func begin(d []int) (deck, api.Errno) {
	if !isDeck(d) {
		return deck{}, api.ErrDeck
	}
	return deck{runsOf(d), d}, api.OK
}

// beginBoxes returns a deck at work: begin's error, and ErrBoxes unless a pass may have so many boxes.
func beginBoxes(d []int, boxes int) (deck, api.Errno) {
	work, e := begin(d)
	if e != api.OK {
		return deck{}, e
	}
	if !areBoxes(boxes) {
		return deck{}, api.ErrBoxes
	}
	return work, api.OK
}

// indices returns the indices of so many slips, as they are given.
func indices(slips int) []int {
	l := make([]int, slips)
	for i := range slips {
		l[i] = i
	}
	return l
}

// order yields the indices of slips in the order of their deck.
func order(ranks []int) iter.Seq[int] {
	return func(yield func(int) bool) {
		l := indices(len(ranks))
		slices.SortStableFunc(l, func(a, b int) int { return cmp.Compare(ranks[a], ranks[b]) })
		for _, slip := range l {
			if !yield(slip) {
				return
			}
		}
	}
}

// runsOf returns the runs of a deck.
func runsOf(ranks []int) runs {
	r := make(runs, len(ranks))
	run, last := 0, -1
	for slip := range order(ranks) {
		if slip < last {
			run++
		}
		r[slip], last = run, slip
	}
	return r
}

// many returns how many runs there are.
func (r runs) many() int {
	n := 0
	for _, run := range r {
		n = max(n, run+1)
	}
	return n
}

// passes returns the fewest passes by which so many boxes put all runs together.
func (r runs) passes(boxes int) int {
	n := 0
	for power(boxes, n) < r.many() {
		n++
	}
	return n
}

// power returns a number, multiplied with itself so many times.
func power(base, times int) int {
	n := 1
	for range times {
		n *= base
	}
	return n
}

// plan returns the plan with the fewest passes: one for each digit of the numbers of runs, that of the ones first.
func (r runs) plan(boxes int) [][]int {
	plan := make([][]int, r.passes(boxes))
	for k := range len(plan) {
		plan[k] = make([]int, len(r))
		for slip, run := range r {
			plan[k][slip] = run / power(boxes, k) % boxes
		}
	}
	return plan
}

// sort returns how slips lie after a plan, by their indices.
func (d deck) sort(boxes int, plan [][]int) []int {
	l := indices(len(d.ranks))
	for k := range len(plan) {
		l = together(l, boxes, plan[k])
	}
	return l
}

// together returns how slips lie after a pass: those of each box as they lay before it.
func together(l []int, boxes int, pass []int) []int {
	var after []int
	for box := range boxes {
		for _, slip := range l {
			if pass[slip] == box {
				after = append(after, slip)
			}
		}
	}
	return after
}

// borders returns all pairs that lie next to each other in the order of the deck, and of which the second one has the lesser index: where a run ends and the next one begins.
func (d deck) borders() [][2]int {
	var l [][2]int
	last := -1
	for slip := range order(d.ranks) {
		if slip < last {
			l = append(l, [2]int{last, slip})
		}
		last = slip
	}
	return l
}
