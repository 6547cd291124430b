package chart_test

import (
	"math"
	"slices"
	"strconv"
	"testing"

	"postil/api"
	"postil/chart"
	"postil/leaf"
)

// badStretches is stretches that no valid edition of a text of three lines and one line has, by what is wrong with them.
func badStretches() map[string]api.Stretch {
	l := map[string]api.Stretch{
		"no stretch":                  {},
		"behind all chapters":         stretch(2, 0, 1, 1, 1),
		"From behind all lines":       stretch(0, 3, 4, 1, 1),
		"no line":                     stretch(0, 1, 1, 1, 1),
		"no line, at the end":         stretch(0, 3, 3, 1, 1),
		"To before From":              stretch(0, 2, 1, 1, 1),
		"To behind all lines":         stretch(0, 0, 4, 1, 1),
		"To behind the lines of 1":    stretch(1, 0, 2, 1, 1),
		"As 0":                        stretch(0, 0, 1, 0, 1),
		"As 1000":                     stretch(0, 0, 1, 1000, 1),
		"First 0":                     stretch(0, 0, 1, 1, 0),
		"First 1000":                  stretch(0, 0, 1, 1, 1000),
		"the last line 1000":          stretch(0, 0, 3, 1, 998),
		"the last of two 1000":        stretch(0, 1, 3, 1, 999),
		"from the least to the most":  stretch(0, math.MinInt, math.MaxInt, 1, 1),
		"from the least to 3":         stretch(0, math.MinInt, 3, 1, 1),
		"from 0 to the most":          stretch(0, 0, math.MaxInt, 1, math.MaxInt),
		"many lines, and a least one": stretch(0, 0, math.MaxInt, 1, math.MinInt+2),
	}
	for _, n := range far {
		s := " " + strconv.Itoa(n)
		l["Chapter"+s], l["From"+s], l["To"+s] = stretch(n, 0, 1, 1, 1), stretch(0, n, 3, 1, 1), stretch(0, 0, n, 1, 1)
		l["As"+s], l["First"+s], l["First of three"+s] = stretch(0, 0, 1, n, 1), stretch(0, 0, 1, 1, n), stretch(0, 0, 3, 1, n)
	}
	return l
}

// wrong is arguments with which each call would have another error, if its text and its editions were valid.
func wrong(t api.Text, e, f api.Edition) input {
	return input{t: t, e: e, f: f, p: place(9, 9, 9), r: ref(0, 0, 0), chapter: -1, line: -1, to: -1}
}

// clashing is a valid edition that is not sound.
func clashing() api.Edition { return edition(3, stretch(0, 0, 1, 1, 1), stretch(0, 0, 1, 2, 1)) }

// P2.1: ErrEdition, before all other errors, in all calls and of all their editions.
func TestEditionsThatAreNotValid(t *testing.T) {
	base := shaped("121", "2")
	bad := map[string]api.Edition{"thirteen stretches": edition(1, slices.Repeat([]api.Stretch{stretch(0, 0, 1, 1, 1)}, 13)...)}
	bad["very many stretches"] = edition(1, slices.Repeat([]api.Stretch{stretch(0, 0, 1, 1, 1)}, 100000)...)
	for _, n := range far {
		bad["the Id "+strconv.Itoa(n)] = edition(n)
	}
	for name, s := range badStretches() {
		bad[name] = edition(1, s)
		bad[name+", behind others"] = edition(1, stretch(0, 0, 1, 1, 1), stretch(0, 0, 1, 1, 1), s)
		bad[name+", ahead of others"] = edition(1, s, stretch(0, 0, 1, 1, 1))
	}
	for name, e := range bad {
		t.Run(name, func(t *testing.T) {
			wantErrors(t, wrong(base, e, clashing()), errorsOf(api.ErrEdition, allCalls...))
			wantErrors(t, wrong(base, clashing(), e), errorsOf(api.ErrEdition, "Cross", "Turn"))
			wantErrors(t, wrong(base, edition(0), e), errorsOf(api.ErrEdition, "Cross", "Turn"))
		})
	}
}

// P2.1: all that is just allowed.
func TestEditionsThatAreValid(t *testing.T) {
	base := shaped("121", "2")
	for i, e := range []api.Edition{
		{}, {Id: api.MaxId}, {Stretches: []api.Stretch{}}, clashing(),
		edition(0, stretch(0, 0, 3, 1, 1)), edition(1, stretch(0, 2, 3, 1, 1)), edition(1, stretch(1, 0, 1, 1, 1)),
		edition(1, stretch(0, 0, 1, 999, 999)), edition(1, stretch(0, 0, 3, 1, 997)), edition(1, stretch(0, 1, 3, 1, 998)),
		edition(1, stretch(1, 0, 1, 1, 1), stretch(0, 1, 2, 2, 1), stretch(0, 0, 1, 1, 9)),
		edition(1, slices.Repeat([]api.Stretch{stretch(0, 0, 3, 2, 2)}, 12)...),
	} {
		if err := chart.Check(base, e); err != api.OK {
			t.Error(i, err)
		}
	}
}

// P2.1: leaf.Check's error before all others, in all calls.
func TestTextsThatAreNotValid(t *testing.T) {
	same := shaped("1", "1")
	same.Chapters[1].Id = same.Chapters[0].Id
	capital := shaped("12")
	capital.Chapters[0].Lines[1][1] = "A"
	for i, text := range []api.Text{{}, {Chapters: []api.Chapter{}}, shaped(""), shaped("10"), shaped("1", "1", "1", "1", "1", "1", "1"), same, capital} {
		for _, e := range []api.Edition{{Id: -1}, edition(1, stretch(0, 0, 1, 1, 1)), edition(1, stretch(0, 0, 0, 0, 0))} {
			if leaf.Check(text) != api.ErrText {
				t.Fatal(i)
			}
			wantErrors(t, wrong(text, e, e), errorsOf(api.ErrText, allCalls...))
		}
	}
}

// P2.2: ErrBad, before the errors of places, references and numbers, in all calls but three, and of all their editions.
func TestEditionsThatAreNotSound(t *testing.T) {
	base := shaped("121", "2")
	for _, e := range []api.Edition{clashing(), edition(1, stretch(0, 0, 1, 1, 3), stretch(1, 0, 1, 1, 3))} {
		wantErrors(t, wrong(base, e, edition(0)), errorsOf(api.ErrBad, allCalls[3:]...))
		wantErrors(t, wrong(base, e, edition(0)), errorsOf(api.OK, allCalls[:3]...))
		wantErrors(t, wrong(base, edition(0), e), errorsOf(api.ErrBad, "Cross", "Turn"))
	}
}

// P2.1: two stretches clash if they have a line of the base, or one of the edition.
func TestClash(t *testing.T) {
	base := shaped("111111", "1111")
	for i, x := range []struct {
		l    []api.Stretch
		a, b int
	}{
		{nil, 0, 0},
		{[]api.Stretch{stretch(0, 0, 6, 1, 1)}, 0, 0},
		{[]api.Stretch{stretch(0, 0, 6, 1, 1), stretch(0, 0, 6, 1, 1)}, 0, 1},
		{[]api.Stretch{stretch(0, 0, 3, 1, 1), stretch(0, 2, 4, 2, 1)}, 0, 1},
		{[]api.Stretch{stretch(0, 2, 4, 1, 1), stretch(0, 0, 3, 2, 1)}, 0, 1},
		{[]api.Stretch{stretch(0, 0, 6, 1, 1), stretch(0, 2, 3, 2, 1)}, 0, 1},
		{[]api.Stretch{stretch(0, 2, 3, 2, 1), stretch(0, 0, 6, 1, 1)}, 0, 1},
		{[]api.Stretch{stretch(0, 0, 3, 1, 1), stretch(0, 3, 6, 1, 4)}, 0, 0},
		{[]api.Stretch{stretch(0, 3, 6, 1, 4), stretch(0, 0, 3, 1, 1)}, 0, 0},
		{[]api.Stretch{stretch(0, 0, 3, 1, 1), stretch(1, 0, 3, 2, 1)}, 0, 0},
		{[]api.Stretch{stretch(0, 0, 3, 1, 1), stretch(1, 0, 3, 1, 3)}, 0, 1},
		{[]api.Stretch{stretch(1, 0, 3, 1, 3), stretch(0, 0, 3, 1, 1)}, 0, 1},
		{[]api.Stretch{stretch(0, 0, 3, 1, 1), stretch(1, 0, 3, 1, 4)}, 0, 0},
		{[]api.Stretch{stretch(1, 0, 3, 1, 4), stretch(0, 0, 3, 1, 1)}, 0, 0},
		{[]api.Stretch{stretch(0, 0, 1, 1, 7), stretch(0, 4, 5, 1, 7)}, 0, 1},
		{[]api.Stretch{stretch(0, 0, 1, 1, 1), stretch(0, 1, 3, 2, 1), stretch(1, 0, 4, 3, 1), stretch(0, 2, 4, 4, 1), stretch(1, 0, 1, 5, 1)}, 1, 3},
		{[]api.Stretch{stretch(0, 0, 1, 1, 1), stretch(0, 1, 3, 2, 1), stretch(0, 2, 4, 4, 1), stretch(0, 0, 1, 5, 1)}, 0, 3},
		{[]api.Stretch{stretch(0, 0, 1, 1, 1), stretch(1, 1, 2, 1, 1), stretch(0, 0, 1, 4, 1)}, 0, 1},
		{[]api.Stretch{stretch(0, 0, 1, 1, 1), stretch(0, 2, 3, 1, 9), stretch(1, 2, 4, 2, 1), stretch(1, 0, 3, 3, 1)}, 2, 3},
	} {
		want := api.OK
		if x.b == 0 {
			want = api.ErrNone
		}
		if a, b, err := chart.Clash(base, edition(1, x.l...)); a != x.a || b != x.b || err != want {
			t.Error(i, a, b, err)
		}
	}
}

// P2.8: stretches that clash are told, the least indices first; what is told does clash, and does not without one of the two.
func TestWhatIsToldDoesClash(t *testing.T) {
	d := dice(1)
	sound := 0
	for range 2000 {
		base := d.text()
		e := d.any(base)
		var want [2]int
		err := api.ErrNone
		for b := range e.Stretches {
			for a := range b {
				if clash(e.Stretches[a], e.Stretches[b]) && (err == api.ErrNone || a < want[0]) {
					want, err = [2]int{a, b}, api.OK
				}
			}
		}
		a, b, told := chart.Clash(base, e)
		if want != [2]int{a, b} || told != err {
			t.Errorf("%v: %d %d %v, not %v %v", e, a, b, told, want, err)
		}
		if told == api.ErrNone {
			sound++
			continue
		}
		if a, b, err := chart.Clash(base, edition(0, e.Stretches[a], e.Stretches[b])); a != 0 || b != 1 || err != api.OK {
			t.Errorf("%v: these two do not clash", e)
		}
		for _, i := range []int{a, b} {
			if _, _, err := chart.Clash(base, edition(0, e.Stretches[i])); err != api.ErrNone {
				t.Errorf("%v: %d alone clashes, %v", e, i, err)
			}
		}
	}
	if sound < 200 || sound > 1800 {
		t.Error(sound, "editions are sound")
	}
}

// P2.1: the first place of each line that is in no stretch, in order, also if the edition is not sound.
func TestGaps(t *testing.T) {
	base := shaped("1234", "5", "21")
	for i, x := range []struct {
		l    []api.Stretch
		want []api.Place
	}{
		{nil, []api.Place{place(0, 0, 0), place(0, 1, 0), place(0, 2, 0), place(0, 3, 0), place(1, 0, 0), place(2, 0, 0), place(2, 1, 0)}},
		{[]api.Stretch{stretch(2, 1, 2, 1, 1), stretch(0, 1, 3, 1, 9)}, []api.Place{place(0, 0, 0), place(0, 3, 0), place(1, 0, 0), place(2, 0, 0)}},
		{[]api.Stretch{stretch(2, 0, 2, 1, 1), stretch(1, 0, 1, 1, 9), stretch(0, 0, 4, 3, 3)}, nil},
		{[]api.Stretch{stretch(0, 0, 2, 1, 1), stretch(0, 0, 2, 1, 1), stretch(2, 0, 1, 1, 1)}, []api.Place{place(0, 2, 0), place(0, 3, 0), place(1, 0, 0), place(2, 1, 0)}},
	} {
		gaps, err := chart.Gaps(base, edition(1, x.l...))
		wantList(t, strconv.Itoa(i), gaps, err, x.want...)
	}
}

// P2.8: a place has no reference if and only if its line is one of the gaps.
func TestGapsHaveNoReferences(t *testing.T) {
	d := dice(2)
	for range 300 {
		base := d.text()
		e := d.sound(base)
		gaps, err := chart.Gaps(base, e)
		if err != api.OK || !slices.IsSortedFunc(gaps, func(a, b api.Place) int { return (a.Chapter-b.Chapter)*100 + a.Line - b.Line }) {
			t.Errorf("gaps of %v: %v, %v", e, gaps, err)
		}
		for _, p := range places(base) {
			_, err := chart.Refer(base, e, p)
			if slices.Contains(gaps, place(p.Chapter, p.Line, 0)) != (err == api.ErrNone) {
				t.Errorf("%v: %v has %v, but the gaps are %v", e, p, err, gaps)
			}
		}
	}
}

// P2.13: an edition of the base is one of each copy's text, with the same gaps and the same references of lines.
func TestEditionsOfCopies(t *testing.T) {
	base := sample()
	c := api.Copy{Id: 1, Readings: []api.Reading{
		{At: place(0, 0, 3), Kind: api.ReadOther, Word: "cold"},
		{At: place(0, 1, 0), Kind: api.ReadOmit},
		{At: place(0, 1, 1), Kind: api.ReadOmit},
		{At: place(1, 0, 3), Kind: api.ReadPut, Word: "salt"},
	}}
	read, err := leaf.Read(base, c)
	if err != api.OK {
		t.Fatal(err)
	}
	for _, e := range []api.Edition{five(), six(), edition(1), clashing()} {
		if err := chart.Check(read, e); err != api.OK {
			t.Errorf("%v is none of the copy: %v", e, err)
		}
		want, _ := chart.Gaps(base, e)
		gaps, err := chart.Gaps(read, e)
		wantList(t, "gaps in the copy", gaps, err, want...)
	}
	for _, e := range []api.Edition{five(), six()} {
		gaps, _ := chart.Gaps(base, e)
		for _, p := range []api.Place{place(0, 0, 0), place(0, 1, 0), place(1, 0, 0)} {
			r, err := chart.Refer(base, e, p)
			inCopy, f := chart.Refer(read, e, p)
			if r != inCopy || err != f || slices.Contains(gaps, p) != (f == api.ErrNone) {
				t.Errorf("%v has the reference %v, %v, but in the copy %v, %v", p, r, err, inCopy, f)
			}
		}
	}
	if p, err := chart.Lead(read, six(), ref(3, 1, 4)); p != place(1, 0, 3) || err != api.OK {
		t.Error(p, err)
	}
	if p, err := chart.Lead(read, six(), ref(7, 2, 2)); p != place(0, 0, 0) || err != api.ErrNone {
		t.Error(p, err)
	}
}
