package rack_test

import (
	"testing"

	"postil/api"
	"postil/rack"
)

// The examples of the chapter, row by row.
func TestExamplesOfRuns(t *testing.T) {
	runs, e := rack.Runs(sample())
	wantList(t, "runs", runs, e, 2, 0, 1, 0)
}

func TestExamplesOfPasses(t *testing.T) {
	n, e := rack.Passes(sample(), 2)
	wantOne(t, "2 boxes", n, e, 2)
	n, e = rack.Passes(sample(), 3)
	wantOne(t, "3 boxes", n, e, 1)
}

func TestExamplesOfPlan(t *testing.T) {
	plan, e := rack.Plan(sample(), 2)
	wantPlan(t, "2 boxes", plan, e, []int{0, 0, 1, 0}, []int{1, 0, 0, 0})
	plan, e = rack.Plan(sample(), 3)
	wantPlan(t, "3 boxes", plan, e, []int{2, 0, 1, 0})
}

func TestExamplesOfSort(t *testing.T) {
	l, e := rack.Sort(sample(), 2, [][]int{{0, 0, 1, 0}, {1, 0, 0, 0}})
	wantList(t, "both passes", l, e, 1, 3, 2, 0)
	l, e = rack.Sort(sample(), 2, [][]int{{0, 0, 1, 0}})
	wantList(t, "the first pass", l, e, 0, 1, 3, 2)
}

func TestExamplesOfProof(t *testing.T) {
	pairs, e := rack.Proof(sample(), 2)
	wantList(t, "2 boxes", pairs, e, [2]int{3, 2}, [2]int{2, 0})
	pairs, e = rack.Proof(sample(), 3)
	wantList(t, "3 boxes", pairs, e, [2]int{3, 2})
}

func TestExamplesOfMend(t *testing.T) {
	keep, e := rack.Keep(sample())
	wantList(t, "keep", keep, e, 1, 2)
	chains, e := rack.Chains(sample())
	wantList(t, "chains", chains, e, 0, 0, 1, 1)
	moves, e := rack.Mend(sample())
	wantList(t, "mend", moves, e, api.Move{From: 0, To: 3}, api.Move{From: 2, To: 1})
	l, e := rack.Moved(sample(), moves)
	wantList(t, "moved", l, e, 1, 3, 2, 0)
	l, e = rack.Moved(sample(), moves[:1])
	wantList(t, "ranks after the first move", at(sample(), l), e, 1, 2, 1, 3)
}

func TestExamplesOfRanks(t *testing.T) {
	ranks, e := rack.Ranks(words("sea", "old", "sea", "and"), api.ByWord)
	wantList(t, "ranks", ranks, e, 2, 1, 2, 0)
}
