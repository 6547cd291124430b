package rack_test

import (
	"slices"
	"testing"

	"postil/api"
	"postil/rack"
)

// withDecks is the names of all calls with a deck, withBoxes of those that have boxes, too.
var (
	withDecks = []string{"Check", "Runs", "Passes", "Plan", "Sort", "Proof", "Keep", "Chains", "Mend", "Moved"}
	withBoxes = []string{"Passes", "Plan", "Sort", "Proof"}
)

// badDecks is decks that are not valid.
func badDecks() [][]int {
	l := [][]int{make([]int, 61), make([]int, 1000), slices.Repeat([]int{-1}, 61)}
	for _, rank := range far {
		l = append(l, []int{rank}, []int{rank, 0, 0}, []int{0, rank, 0}, []int{999, 0, rank}, append(make([]int, 59), rank), append(make([]int, 60), rank))
	}
	return l
}

// P6.1: which decks are valid.
func TestDecks(t *testing.T) {
	for rank := -2000; rank <= 2000; rank++ {
		want := api.ErrDeck
		if rank >= 0 && rank <= 999 {
			want = api.OK
		}
		if e := rack.Check([]int{5, rank}); e != want {
			t.Error(rank, e)
		}
	}
	for slips := range 200 {
		want := api.ErrDeck
		if slips <= 60 {
			want = api.OK
		}
		if e := rack.Check(make([]int, slips)); e != want {
			t.Error(slips, e)
		}
	}
	for _, d := range badDecks() {
		if e := rack.Check(d); e != api.ErrDeck {
			t.Error(d, e)
		}
	}
}

// P6.1: ErrDeck comes first, whatever else there is, in all calls with a deck.
func TestErrorsOfDecks(t *testing.T) {
	for _, d := range badDecks() {
		for _, boxes := range append([]int{0, 2, 20, 21}, far...) {
			for _, plan := range [][][]int{nil, {{0}}, {d}, make([][]int, 9)} {
				wantErrors(t, input{d: d, boxes: boxes, plan: plan}, api.ErrDeck, withDecks...)
			}
			for _, moves := range [][]api.Move{nil, {{From: -1, To: -1}}, make([]api.Move, 61)} {
				wantErrors(t, input{d: d, boxes: boxes, moves: moves}, api.ErrDeck, withDecks...)
			}
		}
	}
}

// P6.1: ErrBoxes comes next, in all calls with boxes, and only there.
func TestErrorsOfBoxes(t *testing.T) {
	for _, d := range [][]int{nil, {7}, sample(), falling(60)} {
		for boxes := -100; boxes <= 200; boxes++ {
			want := api.ErrBoxes
			if boxes >= 2 && boxes <= 20 {
				want = api.OK
			}
			wantErrors(t, input{d: d, boxes: boxes, by: api.ByWord}, want, "Passes", "Plan", "Sort", "File")
		}
		for _, boxes := range append([]int{0, 1, 21}, far...) {
			for _, plan := range [][][]int{nil, {{-1}}, {falling(4)}, make([][]int, 9)} {
				wantErrors(t, input{d: d, boxes: boxes, plan: plan}, api.ErrBoxes, withBoxes...)
			}
			wantErrors(t, input{d: d, boxes: boxes}, api.OK, "Check", "Runs", "Keep", "Chains", "Mend", "Moved")
		}
	}
}

// P6.2: ErrPlan unless it is a plan.
func TestErrorsOfSort(t *testing.T) {
	right := []int{0, 1, 0, 1}
	for _, plan := range [][][]int{
		make([][]int, 1),
		slices.Repeat([][]int{right}, 9),
		slices.Repeat([][]int{right}, 1000),
		{right[:3]},
		{right, nil},
		{{}, right},
		{right, {0, 1, 0, 1, 0}, right},
		{{2, 1, 0, 1}},
		{right, {0, 1, 0, 2}},
		{right, {0, 1, -1, 1}},
		{right, right, right, right, right, right, right, {0, 0, 0, 3}},
	} {
		wantErrors(t, input{d: sample(), boxes: 2, plan: plan}, api.ErrPlan, "Sort")
	}
	for boxes := 2; boxes <= 20; boxes++ {
		for box := -30; box <= 30; box++ {
			want := api.ErrPlan
			if box >= 0 && box < boxes {
				want = api.OK
			}
			for i := range right {
				pass := slices.Clone(right)
				pass[i] = box
				wantErrors(t, input{d: sample(), boxes: boxes, plan: [][]int{right, pass}}, want, "Sort")
			}
		}
		for _, box := range far {
			wantErrors(t, input{d: sample(), boxes: boxes, plan: [][]int{{0, 0, 0, box}, right}}, api.ErrPlan, "Sort")
		}
	}
	for passes := range 20 {
		want := api.ErrPlan
		if passes <= 8 {
			want = api.OK
		}
		wantErrors(t, input{d: sample(), boxes: 2, plan: slices.Repeat([][]int{right}, passes)}, want, "Sort")
		wantErrors(t, input{boxes: 2, plan: make([][]int, passes)}, want, "Sort")
	}
	wantErrors(t, input{boxes: 2, plan: [][]int{{0}}}, api.ErrPlan, "Sort")
}

// P6.3: ErrNone if no pass is needed.
func TestErrorsOfProof(t *testing.T) {
	for _, d := range [][]int{nil, {}, {0}, {999}, {1, 1}, {0, 1, 2, 3}, {0, 0, 5, 5, 999}, make([]int, 60), slices.Sorted(slices.Values(falling(60)))} {
		for boxes := 2; boxes <= 20; boxes++ {
			wantErrors(t, input{d: d, boxes: boxes}, api.ErrNone, "Proof")
		}
	}
	wantErrors(t, input{d: []int{1, 0}, boxes: 20}, api.OK, "Proof")
}

// P6.5: ErrMany, then ErrMoves.
func TestErrorsOfMoved(t *testing.T) {
	for _, slips := range []int{0, 1, 2, 7, 60} {
		d := make([]int, slips)
		for n := -70; n <= 70; n++ {
			want := api.ErrMoves
			if n >= 0 && n < slips {
				want = api.OK
			}
			wantErrors(t, input{d: d, moves: []api.Move{{From: n, To: n}}}, want, "Moved")
			if slips == 0 {
				continue
			}
			wantErrors(t, input{d: d, moves: []api.Move{{From: n, To: 0}, {From: 0, To: 0}}}, want, "Moved")
			wantErrors(t, input{d: d, moves: []api.Move{{From: 0, To: 0}, {From: 0, To: n}}}, want, "Moved")
		}
		for _, n := range far {
			for _, m := range []api.Move{{From: n, To: n}, {From: n, To: 0}, {From: 0, To: n}} {
				wantErrors(t, input{d: d, moves: []api.Move{m}}, api.ErrMoves, "Moved")
				wantErrors(t, input{d: d, moves: slices.Repeat([]api.Move{m}, 60)}, api.ErrMoves, "Moved")
				wantErrors(t, input{d: d, moves: slices.Repeat([]api.Move{m}, 61)}, api.ErrMany, "Moved")
			}
		}
	}
	wantErrors(t, input{}, api.OK, "Moved")
	wantErrors(t, input{d: sample(), moves: make([]api.Move, 60)}, api.OK, "Moved")
	wantErrors(t, input{d: sample(), moves: make([]api.Move, 61)}, api.ErrMany, "Moved")
	wantErrors(t, input{d: sample(), moves: make([]api.Move, 1000)}, api.ErrMany, "Moved")
}

// P6.1 and P6.6: ErrMany, ErrSlip, ErrArg and ErrBoxes, in this order.
func TestErrorsOfSlips(t *testing.T) {
	good := words("sea")[0]
	for _, bad := range badSlips() {
		for _, by := range append([]uint8{0, 5, 255}, allBy...) {
			for _, boxes := range []int{-1, 0, 1, 2, 20, 21} {
				for _, l := range [][]api.Slip{{bad}, {bad, good, good}, {good, bad, good}, append(slices.Repeat([]api.Slip{good}, 59), bad)} {
					wantErrors(t, input{l: l, by: by, boxes: boxes}, api.ErrSlip, "Ranks", "File")
				}
				wantErrors(t, input{l: append(slices.Repeat([]api.Slip{good}, 60), bad), by: by, boxes: boxes}, api.ErrMany, "Ranks", "File")
				wantErrors(t, input{l: slices.Repeat([]api.Slip{bad}, 61), by: by, boxes: boxes}, api.ErrMany, "Ranks", "File")
			}
		}
	}
	for _, l := range [][]api.Slip{nil, {good}, slices.Repeat([]api.Slip{good}, 60)} {
		for by := range 256 {
			want := api.ErrArg
			if by >= 1 && by <= 4 {
				want = api.OK
			}
			wantErrors(t, input{l: l, by: uint8(by), boxes: 2}, want, "Ranks", "File")
			for _, boxes := range append([]int{0, 1, 21}, far...) {
				wantErrors(t, input{l: l, by: uint8(by), boxes: boxes}, want, "Ranks")
				if want == api.OK {
					wantErrors(t, input{l: l, by: uint8(by), boxes: boxes}, api.ErrBoxes, "File")
				} else {
					wantErrors(t, input{l: l, by: uint8(by), boxes: boxes}, want, "File")
				}
			}
		}
	}
	for n := range 200 {
		want := api.ErrMany
		if n <= 60 {
			want = api.OK
		}
		wantErrors(t, input{l: slices.Repeat([]api.Slip{good}, n), by: api.ByWord, boxes: 2}, want, "Ranks", "File")
	}
}
