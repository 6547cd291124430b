package hand_test

import (
	"slices"
	"testing"

	"postil/api"
	"postil/hand"
)

// wide is a round with eight parts of two lines each, one behind the other, of four helpers, that are all back.
func wide() api.Round {
	r := api.Round{Text: numbered(8, 8)}
	for i := range 4 {
		r.Helpers = append(r.Helpers, api.Helper{Id: 3 - i, Post: i, Rate: 1 + i})
	}
	for i := range 8 {
		r.Shares = append(r.Shares, share(2*i, 2*i+1, i%4, i))
		r.Sheets = append(r.Sheets, right(r.Text, r.Shares[i]))
	}
	return r
}

// in is arguments with a round, all others of which are right.
func in(r api.Round) input { return input{r: r, c: even} }

// P5.1: what the document allows, up to each end of it.
func TestValidRounds(t *testing.T) {
	long := slices.Repeat([][]string{slices.Repeat([]string{"abcdefghijkl"}, api.MaxWords)}, api.MaxSheet)
	for name, change := range map[string]func(r *api.Round){
		"as it is":     func(r *api.Round) {},
		"one helper":   func(r *api.Round) { *r = parts(r.Text, []api.Share{share(0, 15, 0, 0)}, api.Sheet{}) },
		"no parts":     func(r *api.Round) { r.Shares, r.Sheets = nil, nil },
		"least helper": func(r *api.Round) { r.Helpers[3] = api.Helper{Id: 9, Post: 0, Rate: 1} },
		"most helper":  func(r *api.Round) { r.Helpers[3] = api.Helper{Id: 9999, Post: 30, Rate: 20} },
		"same helpers": func(r *api.Round) { r.Helpers[0] = api.Helper{Id: 7, Post: r.Helpers[1].Post, Rate: r.Helpers[1].Rate} },
		"least day":    func(r *api.Round) { r.Shares[0].Sent = 0 },
		"most day":     func(r *api.Round) { r.Shares[0].Sent = 400 },
		"one line":     func(r *api.Round) { r.Shares[3].To = r.Shares[3].From },
		"a gap":        func(r *api.Round) { r.Shares[3].From++ },
		"shared":       func(r *api.Round) { r.Shares[3].From-- },
		"in two each": func(r *api.Round) {
			r.Shares[0].To, r.Shares[1].To, r.Shares[2].From = 2, 4, 3
		},
		"not back":      func(r *api.Round) { r.Sheets[3] = api.Sheet{} },
		"no lines":      func(r *api.Round) { r.Sheets[3].Lines = nil },
		"most lines":    func(r *api.Round) { r.Sheets[3].Lines = long },
		"least letters": func(r *api.Round) { r.Sheets[3].Lines = [][]string{{"a"}} },
	} {
		r := with(wide(), change)
		if e := hand.Check(r); e != api.OK {
			t.Error(name, e)
		}
		wantErrors(t, in(r), api.OK, "Check", "Line", "Gaps", "Torn", "Differ", "Again", "Proof", "Doubt", "Assign")
	}
}

// P5.1: what the document does not allow, one thing at a time.
func TestRoundsThatAreNotValid(t *testing.T) {
	for name, change := range map[string]func(r *api.Round){
		"no helpers":           func(r *api.Round) { r.Helpers = nil },
		"no helpers, no parts": func(r *api.Round) { r.Helpers, r.Shares, r.Sheets = nil, nil, nil },
		"five helpers":         func(r *api.Round) { r.Helpers = append(r.Helpers, api.Helper{Id: 9, Rate: 1}) },
		"same Ids":             func(r *api.Round) { r.Helpers[3].Id = r.Helpers[0].Id },
		"Id 10000":             func(r *api.Round) { r.Helpers[3].Id = 10000 },
		"Id -1":                func(r *api.Round) { r.Helpers[3].Id = -1 },
		"Post 31":              func(r *api.Round) { r.Helpers[3].Post = 31 },
		"Post -1":              func(r *api.Round) { r.Helpers[3].Post = -1 },
		"Rate 0":               func(r *api.Round) { r.Helpers[3].Rate = 0 },
		"Rate 21":              func(r *api.Round) { r.Helpers[3].Rate = 21 },
		"nine parts": func(r *api.Round) {
			r.Shares[7].To--
			r.Shares = append(r.Shares, share(15, 15, 0, 0))
			r.Sheets = append(r.Sheets, api.Sheet{})
		},
		"From above To":     func(r *api.Round) { r.Shares[7] = share(15, 14, 0, 0) },
		"From above, first": func(r *api.Round) { r.Shares[0] = share(1, 0, 0, 0) },
		"To 16":             func(r *api.Round) { r.Shares[7].To = 16 },
		"From 16":           func(r *api.Round) { r.Shares[7] = share(16, 16, 0, 0) },
		"From -1":           func(r *api.Round) { r.Shares[0].From = -1 },
		"helper 4":          func(r *api.Round) { r.Shares[3].Helper = 4 },
		"helper -1":         func(r *api.Round) { r.Shares[3].Helper = -1 },
		"Sent -1":           func(r *api.Round) { r.Shares[3].Sent = -1 },
		"Sent 401":          func(r *api.Round) { r.Shares[3].Sent = 401 },
		"same From":         func(r *api.Round) { r.Shares[1].From = 0 },
		"less From":         func(r *api.Round) { r.Shares[0] = share(1, 1, 0, 0); r.Shares[1].From = 0 },
		"same To":           func(r *api.Round) { r.Shares[6].To = 15 },
		"less To":           func(r *api.Round) { r.Shares[6].To = 15; r.Shares[7].To = 14 },
		"in three, first": func(r *api.Round) {
			r.Shares[0].To, r.Shares[1].To, r.Shares[2].To = 4, 5, 6
		},
		"in three, last":  func(r *api.Round) { r.Shares[5].To = 13; r.Shares[6].To = 14; r.Shares[7].From = 13 },
		"one sheet less":  func(r *api.Round) { r.Sheets = r.Sheets[:7] },
		"one sheet more":  func(r *api.Round) { r.Sheets = append(r.Sheets, api.Sheet{}) },
		"no sheets":       func(r *api.Round) { r.Sheets = nil },
		"sheets alone":    func(r *api.Round) { r.Shares = nil },
		"lines, not back": func(r *api.Round) { r.Sheets[7].Back = false },
		"31 lines":        func(r *api.Round) { r.Sheets[7].Lines = slices.Repeat(lines("a"), 31) },
		"no words":        func(r *api.Round) { r.Sheets[7].Lines[1] = nil },
		"empty line":      func(r *api.Round) { r.Sheets[7].Lines[1] = []string{} },
		"11 words":        func(r *api.Round) { r.Sheets[7].Lines[1] = slices.Repeat([]string{"a"}, 11) },
		"torn, and empty": func(r *api.Round) { r.Sheets[0].Lines = append(r.Sheets[0].Lines, nil) },
	} {
		r := with(wide(), change)
		if e := hand.Check(r); e != api.ErrRound {
			t.Error(name, e)
		}
		wantAllErrors(t, in(r), api.ErrRound)
	}
}

// P5.1: each word of each sheet is one.
func TestSheetsWithoutWords(t *testing.T) {
	for _, s := range noWords {
		for part := range 8 {
			r := wide()
			r.Sheets[part].Lines[1] = []string{"sea", s}
			wantAllErrors(t, in(r), api.ErrRound)
		}
	}
}

// R5: numbers outside of what is allowed, of either sign, however great, in each field and each argument.
func TestFarNumbers(t *testing.T) {
	for _, n := range far {
		for i := range 4 {
			for _, f := range []func(h *api.Helper) *int{
				func(h *api.Helper) *int { return &h.Id }, func(h *api.Helper) *int { return &h.Post }, func(h *api.Helper) *int { return &h.Rate },
			} {
				r := wide()
				*f(&r.Helpers[i]) = n
				wantAllErrors(t, in(r), api.ErrRound)
			}
		}
		for i := range 8 {
			for _, f := range []func(s *api.Share) *int{
				func(s *api.Share) *int { return &s.From }, func(s *api.Share) *int { return &s.To }, func(s *api.Share) *int { return &s.Helper }, func(s *api.Share) *int { return &s.Sent },
			} {
				r := wide()
				*f(&r.Shares[i]) = n
				wantAllErrors(t, in(r), api.ErrRound)
			}
		}
		r := wide()
		r.Shares[0].From, r.Shares[0].To = n, n
		wantAllErrors(t, in(r), api.ErrRound)
		wantErrors(t, input{r: wide(), n: n, part: n, c: even, day: n}, api.ErrArg, "Line", "Back", "Explain", "Assign")
		wantErrors(t, input{r: wide(), c: api.Cut{Width: n, Side: api.SideEven}}, api.ErrCut, "Doubt")
	}
}

// P5.1, P5.2, P5.5, P5.6 and P5.7: the errors of arguments, at the ends of what is allowed.
func TestErrorsOfArguments(t *testing.T) {
	r := wide()
	r.Sheets[7] = api.Sheet{}
	for _, x := range []struct {
		in    input
		e     api.Errno
		calls []string
	}{
		{input{r: r, n: 0}, api.OK, []string{"Line"}},
		{input{r: r, n: 15}, api.OK, []string{"Line"}},
		{input{r: r, n: 16}, api.ErrArg, []string{"Line"}},
		{input{r: r, n: -1}, api.ErrArg, []string{"Line"}},
		{input{r: r, part: 0}, api.OK, []string{"Back", "Explain"}},
		{input{r: r, part: 6}, api.OK, []string{"Back", "Explain"}},
		{input{r: r, part: 7}, api.OK, []string{"Back"}},
		{input{r: r, part: 7}, api.ErrNone, []string{"Explain"}},
		{input{r: r, part: 8}, api.ErrArg, []string{"Back", "Explain"}},
		{input{r: r, part: -1}, api.ErrArg, []string{"Back", "Explain"}},
		{input{r: with(r, func(r *api.Round) { r.Shares, r.Sheets = nil, nil })}, api.ErrArg, []string{"Back", "Explain"}},
		{input{r: r, day: 0}, api.OK, []string{"Assign"}},
		{input{r: r, day: 400}, api.OK, []string{"Assign"}},
		{input{r: r, day: 401}, api.ErrArg, []string{"Assign"}},
		{input{r: r, day: -1}, api.ErrArg, []string{"Assign"}},
		{input{r: r, c: api.Cut{Width: 12, Side: api.SideLeft}}, api.OK, []string{"Doubt"}},
		{input{r: r, c: api.Cut{Width: 80, Side: api.SideRight}}, api.OK, []string{"Doubt"}},
		{input{r: r, c: api.Cut{Width: 11, Side: api.SideLeft}}, api.ErrCut, []string{"Doubt"}},
		{input{r: r, c: api.Cut{Width: 81, Side: api.SideLeft}}, api.ErrCut, []string{"Doubt"}},
		{input{r: r, c: api.Cut{Width: 12, Side: 0}}, api.ErrCut, []string{"Doubt"}},
		{input{r: r, c: api.Cut{Width: 12, Side: 4}}, api.ErrCut, []string{"Doubt"}},
	} {
		wantErrors(t, x.in, x.e, x.calls...)
	}
}

// P5.6: the cut is asked for whether any slip is in doubt or none.
func TestCutWithoutDoubt(t *testing.T) {
	wantErrors(t, input{r: wide()}, api.ErrCut, "Doubt")
	l, e := hand.Doubt(wide(), even)
	wantList(t, "no doubt", l, e)
	wantErrors(t, input{r: parts(numbered(1), nil)}, api.ErrCut, "Doubt")
}

// R1: the error of the text comes first, then that of the round, then those of arguments.
func TestOrderOfErrors(t *testing.T) {
	wrong := input{r: wide(), n: -1, part: -1, day: -1}
	wrong.r.Helpers[0].Rate = 0
	wrong.r.Text.Chapters[1].Id = wrong.r.Text.Chapters[0].Id
	wantAllErrors(t, wrong, api.ErrText)
	wrong.r.Text.Chapters[1].Id++
	wantAllErrors(t, wrong, api.ErrRound)
	wrong.r.Helpers[0].Rate = 1
	wantErrors(t, wrong, api.ErrArg, "Line", "Back", "Explain", "Assign")
	wantErrors(t, wrong, api.ErrCut, "Doubt")
	wantErrors(t, wrong, api.OK, "Check", "Gaps", "Torn", "Differ", "Again", "Proof")
}

// P5.1: the error of the text is leaf.Check's.
func TestErrorsOfTexts(t *testing.T) {
	for _, text := range []api.Text{{}, book(""), book("a//b"), book("Sea"), numbered(11), numbered(1, 1, 1, 1, 1, 1, 1)} {
		r := wide()
		r.Text = text
		wantAllErrors(t, in(r), api.ErrText)
	}
}

// N5 and R6: what rounds are made of by chance is valid, so that the tests hold for them.
func TestRoundsByChance(t *testing.T) {
	d := dice(3)
	most := 0
	for range 2000 {
		r, _ := d.round(8)
		if e := hand.Check(r); e != api.OK {
			t.Fatalf("%+v: %v", r, e)
		}
		most = max(most, len(r.Shares))
	}
	if most != api.MaxParts {
		t.Error(most)
	}
}
