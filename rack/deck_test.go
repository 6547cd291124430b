package rack_test

import (
	"slices"
	"testing"

	"postil/api"
	"postil/rack"
)

// P6.1: the runs of some decks.
func TestRuns(t *testing.T) {
	for _, x := range []struct{ d, want []int }{
		{nil, nil},
		{[]int{999}, []int{0}},
		{[]int{0, 0, 0}, []int{0, 0, 0}},
		{[]int{0, 5, 5, 999}, []int{0, 0, 0, 0}},
		{[]int{1, 0}, []int{1, 0}},
		{[]int{3, 2, 1, 0}, []int{3, 2, 1, 0}},
		{[]int{1, 0, 1, 0}, []int{1, 0, 1, 0}},
		{[]int{0, 1, 0, 1}, []int{0, 1, 0, 1}},
		{[]int{2, 0, 1}, []int{1, 0, 0}},
		{[]int{1, 2, 0}, []int{1, 1, 0}},
		{[]int{7, 5, 7, 3, 5}, []int{2, 1, 2, 0, 1}},
	} {
		runs, e := rack.Runs(x.d)
		wantList(t, x.d, runs, e, x.want...)
	}
}

// P6.2: the fewest passes at each power of the boxes, and just behind it.
func TestPasses(t *testing.T) {
	for _, x := range []struct{ runs, boxes, want int }{
		{0, 2, 0}, {1, 2, 0}, {2, 2, 1}, {3, 2, 2}, {4, 2, 2}, {5, 2, 3}, {8, 2, 3}, {9, 2, 4}, {16, 2, 4}, {17, 2, 5}, {32, 2, 5}, {33, 2, 6}, {60, 2, 6},
		{0, 3, 0}, {1, 3, 0}, {2, 3, 1}, {3, 3, 1}, {4, 3, 2}, {9, 3, 2}, {10, 3, 3}, {27, 3, 3}, {28, 3, 4}, {60, 3, 4},
		{16, 4, 2}, {17, 4, 3}, {60, 4, 3}, {49, 7, 2}, {50, 7, 3}, {60, 8, 2},
		{0, 20, 0}, {1, 20, 0}, {2, 20, 1}, {20, 20, 1}, {21, 20, 2}, {60, 20, 2},
	} {
		n, e := rack.Passes(falling(x.runs), x.boxes)
		wantOne(t, x, n, e, x.want)
		plan, e := rack.Plan(falling(x.runs), x.boxes)
		wantOne(t, x, len(plan), e, x.want)
	}
}

// P6.2: each digit of the numbers of runs, that of the ones first.
func TestPlan(t *testing.T) {
	plan, e := rack.Plan(falling(11), 3)
	wantPlan(t, "falling", plan, e, []int{1, 0, 2, 1, 0, 2, 1, 0, 2, 1, 0}, []int{0, 0, 2, 2, 2, 1, 1, 1, 0, 0, 0}, []int{1, 1, 0, 0, 0, 0, 0, 0, 0, 0, 0})
	plan, e = rack.Plan(falling(11), 11)
	wantPlan(t, "falling", plan, e, []int{10, 9, 8, 7, 6, 5, 4, 3, 2, 1, 0})
	plan, e = rack.Plan([]int{5, 5, 7}, 2)
	wantPlan(t, "right", plan, e)
	plan, e = rack.Plan(nil, 2)
	wantPlan(t, "empty", plan, e)
}

// wantDeck checks what is told of a deck by so many boxes: its runs, passes and plan, and that the plan sorts it.
func wantDeck(t *testing.T, d []int, boxes int) {
	t.Helper()
	want, pairs := runsOf(d)
	runs, e := rack.Runs(d)
	wantList(t, d, runs, e, want...)
	passes, e := rack.Passes(d, boxes)
	wantOne(t, d, passes, e, passesOf(d, boxes))
	plan, e := rack.Plan(d, boxes)
	digits := make([][]int, passes)
	for i := range want {
		for k, left := 0, want[i]; k < passes; k++ {
			digits[k] = append(digits[k], left%boxes)
			left /= boxes
		}
	}
	wantPlan(t, d, plan, e, digits...)
	l, e := rack.Sort(d, boxes, plan)
	wantList(t, d, l, e, orderOf(d)...)
	if passes == 0 {
		wantErrors(t, input{d: d, boxes: boxes}, api.ErrNone, "Proof")
		return
	}
	many := 1
	for range passes - 1 {
		many *= boxes
	}
	proof, e := rack.Proof(d, boxes)
	wantList(t, d, proof, e, pairs[:many]...)
}

// P6.1, P6.2, P6.3 and P6.7: all small decks, and some of any size, by all boxes: a plan sorts the deck, and equal slips stay in their order.
func TestPlansSort(t *testing.T) {
	for _, d := range decks(5, 4) {
		for _, boxes := range []int{2, 3, 4, 20} {
			wantDeck(t, d, boxes)
		}
	}
	x := dice(2)
	for range 200 {
		d := x.deck(60)
		for boxes := 2; boxes <= 20; boxes++ {
			wantDeck(t, d, boxes)
		}
	}
	for slips := range 61 {
		for boxes := 2; boxes <= 20; boxes++ {
			wantDeck(t, falling(slips), boxes)
		}
	}
}

// P6.2: Sort goes through any plan, pass by pass, also if it does not sort the deck.
func TestSort(t *testing.T) {
	for _, x := range []struct {
		boxes int
		plan  [][]int
		want  []int
	}{
		{2, nil, []int{0, 1, 2, 3}},
		{2, [][]int{{0, 0, 0, 0}}, []int{0, 1, 2, 3}},
		{2, [][]int{{1, 1, 1, 1}, {1, 1, 1, 1}}, []int{0, 1, 2, 3}},
		{2, [][]int{{1, 0, 1, 0}}, []int{1, 3, 0, 2}},
		// Boxes are those of slips by their indices in the deck as it is given, also in the second pass.
		{2, [][]int{{1, 0, 1, 0}, {1, 1, 0, 0}}, []int{3, 2, 1, 0}},
		{3, [][]int{{2, 0, 1, 0}}, []int{1, 3, 2, 0}},
		{20, [][]int{{19, 18, 17, 0}}, []int{3, 2, 1, 0}},
	} {
		l, e := rack.Sort(sample(), x.boxes, x.plan)
		wantList(t, x, l, e, x.want...)
	}
	d := dice(3)
	for range 2000 {
		deck, boxes := d.deck(60), 2+d.roll(19)
		plan := d.plan(len(deck), boxes, d.roll(9))
		l, e := rack.Sort(deck, boxes, plan)
		wantList(t, plan, l, e, sorted(len(deck), plan)...)
	}
	// With no slips a plan has nothing to put into boxes.
	l, e := rack.Sort(nil, 2, make([][]int, 8))
	wantList(t, "no slips", l, e)
}

// plans calls a function for all plans of so many passes for so many slips by some boxes.
func plans(slips, boxes, passes int, call func(plan [][]int)) {
	many := 1
	for range slips * passes {
		many *= boxes
	}
	plan := make([][]int, passes)
	for k := range plan {
		plan[k] = make([]int, slips)
	}
	for n := range many {
		for k := range passes {
			for i := range slips {
				plan[k][i] = n % boxes
				n /= boxes
			}
		}
		call(plan)
	}
}

// wantProof checks that a plan does not sort a deck, and that this is seen by the slips of a proof alone: they do not lie in their order.
func wantProof(t *testing.T, d []int, boxes int, pairs [][2]int, plan [][]int) {
	t.Helper()
	l, e := rack.Sort(d, boxes, plan)
	if e != api.OK || slices.Equal(l, orderOf(d)) {
		t.Errorf("%v is sorted by %v, %v", d, plan, e)
	}
	var lie []int
	for _, pair := range pairs {
		lie = append(lie, slices.Index(l, pair[0]), slices.Index(l, pair[1]))
	}
	if slices.IsSorted(lie) {
		t.Errorf("%v by %v: %v is put right", d, plan, pairs)
	}
}

// P6.8: no plan with fewer passes sorts a deck, of all plans; the slips of the proof show it.
func TestNoPlanIsShorter(t *testing.T) {
	proved := map[int]int{}
	for _, x := range []struct {
		boxes int
		decks [][]int
	}{
		{2, decks(4, 4)},
		{3, decks(4, 4)},
		{4, [][]int{falling(4), falling(5), {2, 2, 1, 1, 0}, {4, 2, 0, 3, 1}, {4, 3, 2, 1, 4}}},
		{2, [][]int{falling(5), falling(6), {5, 4, 3, 1, 2}, {1, 3, 2, 1, 0, 4}, {4, 4, 3, 2, 1, 0}}},
	} {
		for _, d := range x.decks {
			passes, _ := rack.Passes(d, x.boxes)
			if passes == 0 {
				continue
			}
			pairs, e := rack.Proof(d, x.boxes)
			if e != api.OK {
				t.Error(d, e)
			}
			for fewer := range passes {
				plans(len(d), x.boxes, fewer, func(plan [][]int) { wantProof(t, d, x.boxes, pairs, plan) })
			}
			proved[passes]++
		}
	}
	if proved[1] == 0 || proved[2] == 0 || proved[3] == 0 {
		t.Error(proved)
	}
}

// P6.8: of decks of any size, no plan with fewer passes puts the slips of the proof into their order: neither those that look like chance, nor the best ones, which put together as many runs as they can, at some place.
func TestProofOfGreatDecks(t *testing.T) {
	x := dice(4)
	for range 200 {
		d, boxes := x.deck(60), 2+x.roll(6)
		passes, _ := rack.Passes(d, boxes)
		if passes == 0 {
			continue
		}
		pairs, e := rack.Proof(d, boxes)
		if e != api.OK {
			t.Error(d, e)
		}
		wantProof(t, d, boxes, pairs, x.plan(len(d), boxes, passes-1))
		runs, _ := rack.Runs(d)
		most := 1
		for range passes - 1 {
			most *= boxes
		}
		for begun := range slices.Max(runs) + 1 {
			plan := make([][]int, passes-1)
			for _, run := range runs {
				left := min(max(run-begun, 0), most-1)
				for k := range plan {
					plan[k] = append(plan[k], left%boxes)
					left /= boxes
				}
			}
			wantProof(t, d, boxes, pairs, plan)
		}
	}
}

// N6 and P6.9: with more boxes no more passes are needed, no more than one less than there are runs, and none if the deck is sorted.
func TestMoreBoxes(t *testing.T) {
	x := dice(5)
	for range 500 {
		d := x.deck(60)
		runs, _ := rack.Runs(d)
		last := 0
		if len(d) > 0 {
			last = slices.Max(runs)
		}
		for boxes := 2; boxes <= 20; boxes++ {
			n, e := rack.Passes(d, boxes)
			if e != api.OK || n > last || n > api.MaxPasses {
				t.Error(d, boxes, n, e)
			}
			last = n
			right := slices.Sorted(slices.Values(d))
			n, e = rack.Passes(right, boxes)
			wantOne(t, right, n, e, 0)
		}
	}
}

// P6.9: slips that are put in behind all others, in order, change nothing.
func TestSlipsBehindAllOthers(t *testing.T) {
	x := dice(6)
	for range 300 {
		d := x.deck(50)
		longer, rank := slices.Clone(d), 0
		if len(d) > 0 {
			rank = slices.Max(d)
		}
		for range 1 + x.roll(10) {
			rank = min(rank+x.roll(3), api.MaxRank)
			longer = append(longer, rank)
		}
		runs, _ := rack.Runs(d)
		others, e := rack.Runs(longer)
		if len(d) > 0 {
			wantList(t, longer, others[:len(d)], e, runs...)
			wantOne(t, longer, slices.Max(others), e, slices.Max(runs))
		}
		for boxes := 2; boxes <= 20; boxes++ {
			want, _ := rack.Passes(d, boxes)
			n, e := rack.Passes(longer, boxes)
			wantOne(t, longer, n, e, want)
			if want > 0 {
				pairs, _ := rack.Proof(d, boxes)
				others, e := rack.Proof(longer, boxes)
				wantList(t, longer, others, e, pairs...)
			}
		}
	}
}
