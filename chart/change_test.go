package chart_test

import (
	"slices"
	"strconv"
	"testing"

	"postil/api"
	"postil/chart"
)

// P2.4: stretches that go on are one, whatever their order is, and others are not.
func TestPlain(t *testing.T) {
	base := shaped("11111", "111")
	for i, x := range []struct{ l, want []api.Stretch }{
		{nil, nil},
		{[]api.Stretch{stretch(0, 2, 4, 1, 3), stretch(0, 0, 2, 1, 1)}, []api.Stretch{stretch(0, 0, 4, 1, 1)}},
		{[]api.Stretch{stretch(0, 4, 5, 1, 7), stretch(0, 0, 1, 1, 3), stretch(1, 0, 3, 2, 1), stretch(0, 1, 4, 1, 4)}, []api.Stretch{stretch(0, 0, 5, 1, 3), stretch(1, 0, 3, 2, 1)}},
		{[]api.Stretch{stretch(0, 0, 2, 1, 1), stretch(0, 3, 4, 1, 3)}, []api.Stretch{stretch(0, 0, 2, 1, 1), stretch(0, 3, 4, 1, 3)}},
		{[]api.Stretch{stretch(0, 0, 2, 1, 1), stretch(0, 3, 4, 1, 4)}, []api.Stretch{stretch(0, 0, 2, 1, 1), stretch(0, 3, 4, 1, 4)}},
		{[]api.Stretch{stretch(0, 0, 2, 1, 1), stretch(0, 2, 4, 2, 3)}, []api.Stretch{stretch(0, 0, 2, 1, 1), stretch(0, 2, 4, 2, 3)}},
		{[]api.Stretch{stretch(0, 0, 2, 1, 1), stretch(0, 2, 4, 1, 4)}, []api.Stretch{stretch(0, 0, 2, 1, 1), stretch(0, 2, 4, 1, 4)}},
		{[]api.Stretch{stretch(0, 0, 2, 1, 3), stretch(0, 2, 4, 1, 1)}, []api.Stretch{stretch(0, 0, 2, 1, 3), stretch(0, 2, 4, 1, 1)}},
		{[]api.Stretch{stretch(1, 0, 3, 1, 6), stretch(0, 0, 5, 1, 1)}, []api.Stretch{stretch(0, 0, 5, 1, 1), stretch(1, 0, 3, 1, 6)}},
		{[]api.Stretch{stretch(0, 0, 1, 1, 1), stretch(1, 1, 2, 1, 2)}, []api.Stretch{stretch(0, 0, 1, 1, 1), stretch(1, 1, 2, 1, 2)}},
		{[]api.Stretch{stretch(1, 0, 1, 1, 1), stretch(0, 3, 5, 1, 8), stretch(0, 0, 1, 9, 9)}, []api.Stretch{stretch(0, 0, 1, 9, 9), stretch(0, 3, 5, 1, 8), stretch(1, 0, 1, 1, 1)}},
	} {
		plain, err := chart.Plain(base, edition(42, x.l...))
		wantEdition(t, strconv.Itoa(i), plain, err, edition(42, x.want...))
	}
}

// P2.10: the same map, no edition with it has fewer stretches, and their order does not matter.
func TestPlainHasTheSameMap(t *testing.T) {
	d := dice(5)
	merged := 0
	for range 500 {
		base := d.text()
		e := d.sound(base)
		plain, err := chart.Plain(base, e)
		if plain.Id != e.Id || err != api.OK {
			t.Errorf("%v: %v, %v", e, plain, err)
		}
		wantMap(t, base, plain, refs(base, e))
		again, err := chart.Plain(base, d.shuffled(e))
		wantEdition(t, "in another order", again, err, plain)
		again, err = chart.Plain(base, plain)
		wantEdition(t, "plain already", again, err, plain)
		merged += len(e.Stretches) - len(plain.Stretches)
	}
	if merged < 100 {
		t.Error(merged, "stretches went on")
	}
}

// P2.5: lines that go on in both editions are one pass, in the order of the first edition, wherever they are in the base.
func TestCross(t *testing.T) {
	base := shaped("1111", "111")
	e := edition(1, stretch(0, 0, 4, 2, 1), stretch(1, 0, 3, 2, 5))
	for i, x := range []struct {
		f    api.Edition
		want []api.Pass
	}{
		{edition(2), nil},
		{e, []api.Pass{pass(2, 1, 2, 1, 7)}},
		{edition(2, stretch(1, 0, 3, 9, 15), stretch(0, 0, 4, 9, 11)), []api.Pass{pass(2, 1, 9, 11, 7)}},
		{edition(2, stretch(1, 0, 3, 8, 15), stretch(0, 0, 4, 9, 11)), []api.Pass{pass(2, 1, 9, 11, 4), pass(2, 5, 8, 15, 3)}},
		{edition(2, stretch(1, 0, 3, 9, 1), stretch(0, 0, 4, 9, 11)), []api.Pass{pass(2, 1, 9, 11, 4), pass(2, 5, 9, 1, 3)}},
		{edition(2, stretch(0, 0, 1, 9, 11), stretch(0, 2, 4, 9, 13)), []api.Pass{pass(2, 1, 9, 11, 1), pass(2, 3, 9, 13, 2)}},
		{edition(2, stretch(0, 0, 1, 9, 11), stretch(0, 2, 4, 9, 12)), []api.Pass{pass(2, 1, 9, 11, 1), pass(2, 3, 9, 12, 2)}},
		{edition(2, stretch(0, 0, 2, 9, 11), stretch(0, 2, 4, 9, 13), stretch(1, 0, 1, 1, 1)), []api.Pass{pass(2, 1, 9, 11, 4), pass(2, 5, 1, 1, 1)}},
	} {
		passes, err := chart.Cross(base, e, x.f)
		wantList(t, strconv.Itoa(i), passes, err, x.want...)
	}
	crossed := edition(3, stretch(1, 1, 3, 1, 8), stretch(0, 2, 4, 4, 1), stretch(0, 0, 1, 1, 10))
	passes, err := chart.Cross(base, crossed, e)
	wantList(t, "not in the order of the base", passes, err, pass(1, 8, 2, 6, 2), pass(1, 10, 2, 1, 1), pass(4, 1, 2, 3, 2))
	apart, err := chart.Cross(base, edition(1, stretch(0, 0, 2, 1, 1)), edition(2, stretch(0, 2, 4, 1, 1)))
	wantList(t, "no line in both", apart, err)
}

// P2.5 and P2.11: Turn goes by way of the place, Cross says the same, in order and with no more passes than it takes.
func TestCrossSaysTheSameAsTurn(t *testing.T) {
	d := dice(6)
	for range 300 {
		base := d.text()
		e, f := d.sound(base), d.sound(base)
		from, to := refs(base, e), refs(base, f)
		passes, err := chart.Cross(base, e, f)
		if err != api.OK {
			t.Error(err)
		}
		said := map[[2]int][2]int{}
		for i, x := range passes {
			for n := range x.Lines {
				said[[2]int{x.Chapter, x.Line + n}] = [2]int{x.ToChapter, x.ToLine + n}
			}
			if i == 0 {
				continue
			}
			a := passes[i-1]
			if a.Chapter > x.Chapter || a.Chapter == x.Chapter && a.Line+a.Lines > x.Line {
				t.Errorf("%v, %v: %v is not in order", e, f, passes)
			}
			if a.Chapter == x.Chapter && a.Line+a.Lines == x.Line && a.ToChapter == x.ToChapter && a.ToLine+a.Lines == x.ToLine {
				t.Errorf("%v, %v: %v goes on", e, f, passes)
			}
		}
		for p, r := range from {
			want, there := to[p]
			x, err := chart.Turn(base, e, f, r)
			if x != want || there != (err == api.OK) || !there && err != api.ErrNone {
				t.Errorf("%v, %v: %v turns to %v, %v, not %v", e, f, r, x, err, want)
			}
			line := [2]int{r.Chapter, r.Line}
			if l, ok := said[line]; ok != there || l != [2]int{want.Chapter, want.Line} {
				t.Errorf("%v, %v: %v is %v, not %v", e, f, line, l, want)
			}
		}
		for line := range said {
			if _, ok := turned(from)[ref(line[0], line[1], 1)]; !ok {
				t.Errorf("%v, %v: %v is not there", e, f, line)
			}
		}
	}
}

// P2.5: references that lead to none in the first edition, or to a place that is not there in the second one.
func TestTurn(t *testing.T) {
	base := shaped("23", "1")
	e := edition(1, stretch(0, 0, 2, 1, 1))
	f := edition(2, stretch(0, 1, 2, 4, 9), stretch(1, 0, 1, 1, 1))
	for r, want := range map[api.Ref]api.Ref{ref(1, 2, 1): ref(4, 9, 1), ref(1, 2, 3): ref(4, 9, 3), ref(1, 1, 1): {}, ref(1, 2, 4): {}, ref(1, 3, 1): {}, ref(2, 1, 1): {}, ref(4, 9, 1): {}} {
		err := api.ErrNone
		if want != (api.Ref{}) {
			err = api.OK
		}
		if x, told := chart.Turn(base, e, f, r); x != want || told != err {
			t.Error(r, x, told)
		}
	}
}

// P2.11: maps one behind the other are one map, and back it leads to where it was.
func TestMapsBehindEachOther(t *testing.T) {
	d := dice(7)
	thrice := 0
	for range 200 {
		base := d.text()
		e, f, g := d.sound(base), d.sound(base), d.sound(base)
		for _, r := range refs(base, e) {
			second, err := chart.Turn(base, e, f, r)
			if err != api.OK {
				continue
			}
			if back, err := chart.Turn(base, f, e, second); back != r || err != api.OK {
				t.Errorf("%v, %v: %v leads back to %v, %v", e, f, r, back, err)
			}
			third, err := chart.Turn(base, f, g, second)
			if direct, told := chart.Turn(base, e, g, r); direct != third || told != err {
				t.Errorf("%v, %v, %v: %v leads to %v, %v, directly %v, %v", e, f, g, r, third, err, direct, told)
			}
			if err == api.OK {
				thrice++
			}
		}
	}
	if thrice < 100 {
		t.Error(thrice, "references are there in all three")
	}
}

// twelve is an edition of as many stretches as there may be, none of which goes on where another one ends: the last two have two lines each.
func twelve() (api.Text, api.Edition) {
	e := edition(8)
	for n := range 10 {
		e.Stretches = append(e.Stretches, stretch(0, n, n+1, n+1, 1))
	}
	e.Stretches = append(e.Stretches, stretch(1, 0, 2, 11, 1), stretch(1, 2, 4, 12, 1))
	return shaped("1111111111", "1111"), e
}

// P2.6: lines that are split off begin with 1, whatever the base has ahead of them.
func TestSplit(t *testing.T) {
	base := shaped("1111", "111")
	e := edition(42, stretch(1, 0, 2, 5, 1), stretch(0, 0, 3, 5, 4), stretch(0, 3, 4, 6, 2), stretch(1, 2, 3, 5, 9))
	for i, x := range []struct {
		chapter, line, to int
		want              []api.Stretch
	}{
		{5, 1, 7, []api.Stretch{stretch(0, 0, 3, 7, 4), stretch(0, 3, 4, 6, 2), stretch(1, 0, 2, 7, 1), stretch(1, 2, 3, 7, 9)}},
		{5, 2, 7, []api.Stretch{stretch(0, 0, 3, 7, 3), stretch(0, 3, 4, 6, 2), stretch(1, 0, 1, 5, 1), stretch(1, 1, 2, 7, 1), stretch(1, 2, 3, 7, 8)}},
		{5, 3, 1, []api.Stretch{stretch(0, 0, 3, 1, 2), stretch(0, 3, 4, 6, 2), stretch(1, 0, 2, 5, 1), stretch(1, 2, 3, 1, 7)}},
		{5, 6, 999, []api.Stretch{stretch(0, 0, 2, 5, 4), stretch(0, 2, 3, 999, 1), stretch(0, 3, 4, 6, 2), stretch(1, 0, 2, 5, 1), stretch(1, 2, 3, 999, 4)}},
		{5, 9, 7, []api.Stretch{stretch(0, 0, 3, 5, 4), stretch(0, 3, 4, 6, 2), stretch(1, 0, 2, 5, 1), stretch(1, 2, 3, 7, 1)}},
		{6, 1, 7, []api.Stretch{stretch(0, 0, 3, 5, 4), stretch(0, 3, 4, 7, 2), stretch(1, 0, 2, 5, 1), stretch(1, 2, 3, 5, 9)}},
	} {
		split, err := chart.Split(base, e, x.chapter, x.line, x.to)
		wantEdition(t, strconv.Itoa(i), split, err, edition(42, x.want...))
	}
}

// P2.6: the lines that were split off may be one stretch then with none of the others, but those of one chapter may be one.
func TestSplitIsPlain(t *testing.T) {
	base := shaped("1111")
	split, err := chart.Split(base, edition(1, stretch(0, 2, 4, 5, 3), stretch(0, 0, 2, 5, 1)), 5, 1, 6)
	wantEdition(t, "Split", split, err, edition(1, stretch(0, 0, 4, 6, 1)))
	joined, err := chart.Join(base, edition(1, stretch(0, 2, 4, 7, 1), stretch(0, 0, 2, 5, 1)), 7, 5)
	wantEdition(t, "Join", joined, err, edition(1, stretch(0, 0, 4, 5, 1)))
}

// P2.6: the errors of Split, each before the next.
func TestErrorsOfSplit(t *testing.T) {
	base := shaped("1111", "111")
	e := edition(42, stretch(0, 0, 3, 5, 4), stretch(1, 0, 1, 6, 1))
	for i, x := range []struct {
		chapter, line, to int
		want              api.Errno
	}{
		{5, 7, 6, api.ErrNone}, {5, 999, 7, api.ErrNone}, {7, 1, 8, api.ErrNone}, {7, 1, 7, api.ErrNone}, {7, 1, 6, api.ErrNone}, {5, 7, 5, api.ErrNone},
		{5, 6, 6, api.ErrFull}, {5, 6, 5, api.ErrFull}, {5, 4, 5, api.ErrFull}, {5, 1, 5, api.ErrFull}, {6, 1, 5, api.ErrFull},
		{999, 999, 999, api.ErrNone}, {5, 6, 999, api.OK}, {5, 1, 1, api.OK},
	} {
		if _, err := chart.Split(base, e, x.chapter, x.line, x.to); err != x.want {
			t.Error(i, err)
		}
	}
	for _, n := range append([]int{0, 1000}, far...) {
		for _, x := range [][3]int{{n, 5, 7}, {5, n, 7}, {5, 5, n}, {n, n, n}, {7, 9, n}, {n, 9, 5}} {
			wantErrors(t, input{t: base, e: e, chapter: x[0], line: x[1], to: x[2]}, errorsOf(api.ErrArg, "Split"))
		}
	}
}

// P2.6: as many stretches as there may be, and one more, at last.
func TestTooManyStretches(t *testing.T) {
	base, e := twelve()
	for i, x := range []struct {
		chapter, line, to int
		want              api.Errno
	}{
		{11, 2, 20, api.ErrFull}, {12, 2, 20, api.ErrFull}, {11, 1, 20, api.OK}, {1, 1, 20, api.OK}, {11, 3, 20, api.ErrNone}, {11, 2, 1000, api.ErrArg},
	} {
		wantErrors(t, input{t: base, e: e, chapter: x.chapter, line: x.line, to: x.to}, errorsOf(x.want, "Split"))
		if split, err := chart.Split(base, e, x.chapter, x.line, x.to); err == api.OK && len(split.Stretches) != 12 {
			t.Error(i, split)
		}
	}
	// Two of its stretches are one in plain.
	e.Stretches[1] = stretch(0, 1, 2, 1, 2)
	split, err := chart.Split(base, e, 11, 2, 20)
	if len(split.Stretches) != 12 || err != api.OK {
		t.Error(split, err)
	}
}

// P2.6: lines that are joined are behind the last number, and keep what lies between them.
func TestJoin(t *testing.T) {
	base := shaped("1111", "111")
	e := edition(42, stretch(1, 0, 2, 5, 8), stretch(0, 0, 2, 5, 3), stretch(0, 3, 4, 6, 2), stretch(1, 2, 3, 6, 4))
	for i, x := range []struct {
		chapter, to int
		want        []api.Stretch
	}{
		{6, 5, []api.Stretch{stretch(0, 0, 2, 5, 3), stretch(0, 3, 4, 5, 11), stretch(1, 0, 2, 5, 8), stretch(1, 2, 3, 5, 13)}},
		{5, 6, []api.Stretch{stretch(0, 0, 2, 6, 7), stretch(0, 3, 4, 6, 2), stretch(1, 0, 2, 6, 12), stretch(1, 2, 3, 6, 4)}},
		{5, 7, []api.Stretch{stretch(0, 0, 2, 7, 3), stretch(0, 3, 4, 6, 2), stretch(1, 0, 2, 7, 8), stretch(1, 2, 3, 6, 4)}},
		{6, 999, []api.Stretch{stretch(0, 0, 2, 5, 3), stretch(0, 3, 4, 999, 2), stretch(1, 0, 2, 5, 8), stretch(1, 2, 3, 999, 4)}},
	} {
		joined, err := chart.Join(base, e, x.chapter, x.to)
		wantEdition(t, strconv.Itoa(i), joined, err, edition(42, x.want...))
	}
}

// P2.6: the errors of Join, each before the next.
func TestErrorsOfJoin(t *testing.T) {
	base := shaped("1111", "111")
	e := edition(42, stretch(0, 0, 2, 5, 598), stretch(1, 0, 1, 6, 400), stretch(1, 1, 2, 7, 401), stretch(0, 2, 3, 6, 1))
	for i, x := range []struct {
		chapter, to int
		want        api.Errno
	}{
		{8, 5, api.ErrNone}, {8, 8, api.ErrNone}, {999, 999, api.ErrNone}, {5, 5, api.ErrFull}, {7, 7, api.ErrFull},
		{5, 6, api.OK}, {6, 5, api.OK}, {5, 7, api.ErrFull}, {7, 5, api.ErrFull}, {5, 9, api.OK},
	} {
		if joined, err := chart.Join(base, e, x.chapter, x.to); err != x.want {
			t.Error(i, joined, err)
		}
	}
	for _, n := range append([]int{0, 1000}, far...) {
		for _, x := range [][2]int{{n, 5}, {5, n}, {n, n}, {8, n}} {
			wantErrors(t, input{t: base, e: e, chapter: x[0], to: x[1]}, errorsOf(api.ErrArg, "Join"))
		}
	}
	greatest := edition(1, stretch(0, 0, 1, 1, 999), stretch(0, 1, 2, 2, 999))
	wantErrors(t, input{t: base, e: greatest, chapter: 1, to: 2}, errorsOf(api.ErrFull, "Join"))
	wantErrors(t, input{t: base, e: greatest, chapter: 1, to: 3}, errorsOf(api.OK, "Join"))
}

// lastOf is the greatest number of a line of a chapter, and whether it has one from a number on.
func lastOf(l map[api.Place]api.Ref, chapter, line int) (last int, some bool) {
	for _, r := range l {
		if r.Chapter == chapter && r.Line >= line {
			last, some = max(last, r.Line), true
		}
	}
	return last, some
}

// moved is a map in which the lines of a chapter, from a number on, are in another one, with numbers that are so much greater.
func moved(l map[api.Place]api.Ref, chapter, line, to, by int) map[api.Place]api.Ref {
	other := map[api.Place]api.Ref{}
	for p, r := range l {
		if r.Chapter == chapter && r.Line >= line {
			r = ref(to, r.Line+by, r.Word)
		}
		other[p] = r
	}
	return other
}

// P2.6 and P2.12: no place loses its reference, and no other chapter changes.
func TestSplitsAndJoins(t *testing.T) {
	d := dice(8)
	done := map[string]int{}
	for range 3000 {
		base := d.text()
		e := d.sound(base)
		l := refs(base, e)
		chapter, line, to := 1+d.roll(5), 1+d.roll(12), 1+d.roll(6)
		_, some := lastOf(l, chapter, line)
		before, taken := lastOf(l, to, 1)
		split, err := chart.Split(base, e, chapter, line, to)
		want := moved(l, chapter, line, to, 1-line)
		done["split "+err.Error()]++
		switch {
		case !some:
			wantErr(t, e, err, api.ErrNone)
		case to == chapter || taken || fewest(want) > api.MaxStretches:
			wantErr(t, e, err, api.ErrFull)
		default:
			wantErr(t, e, err, api.OK)
			wantMap(t, base, split, want)
		}
		_, some = lastOf(l, chapter, 1)
		joined, err := chart.Join(base, e, chapter, to)
		done["join "+err.Error()]++
		switch {
		case !some:
			wantErr(t, e, err, api.ErrNone)
		case to == chapter:
			wantErr(t, e, err, api.ErrFull)
		default:
			wantErr(t, e, err, api.OK)
			wantMap(t, base, joined, moved(l, chapter, 1, to, before))
		}
	}
	for _, what := range []string{"split error 0", "split error 6", "split error 9", "join error 0", "join error 6", "join error 9"} {
		if done[what] < 100 {
			t.Error(what, done[what])
		}
	}
}

func wantErr(t *testing.T, e api.Edition, err, want api.Errno) {
	t.Helper()
	if err != want {
		t.Errorf("%v: %v, not %v", e, err, want)
	}
}

// P2.12: what is split off and joined again is where it was, if the last line that was left has the number before that of the split.
func TestSplitAndJoinedAgain(t *testing.T) {
	d := dice(9)
	done := 0
	for range 2000 {
		base := d.text()
		e := d.sound(base)
		chapter, line := 1+d.roll(4), 1+d.roll(12)
		if !slices.ContainsFunc(e.Stretches, func(s api.Stretch) bool {
			return s.As == chapter && line > 1 && s.First <= line-1 && line-1 < s.First+s.To-s.From
		}) {
			continue
		}
		split, err := chart.Split(base, e, chapter, line, 6)
		if err != api.OK {
			continue
		}
		done++
		joined, err := chart.Join(base, split, 6, chapter)
		plain, _ := chart.Plain(base, e)
		wantEdition(t, "joined again", joined, err, plain)
	}
	if done < 100 {
		t.Error(done, "were split")
	}
}
