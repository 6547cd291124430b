package hand_test

import (
	"slices"
	"testing"

	"postil/api"
	"postil/hand"
)

// P5.3: a part is torn if it is back with more lines, or with less, and only then.
func TestTorn(t *testing.T) {
	text := book("a/b/c/d/e")
	shares := []api.Share{share(0, 1, 0, 0), share(2, 2, 0, 0), share(3, 4, 0, 0)}
	for _, x := range []struct {
		first, second, third api.Sheet
		want                 []int
	}{
		{api.Sheet{}, api.Sheet{}, api.Sheet{}, nil},
		{back("a/b"), back("c"), back("d/e"), nil},
		{back("x/y"), back("z"), back("e/d"), nil},
		{back("a"), back("c"), back("d/e"), []int{0}},
		{back("a/b"), back("c/c"), back("d/e"), []int{1}},
		{back("a/b"), back("c"), back("d/e/e"), []int{2}},
		{back("a/b"), back(""), back(""), []int{1, 2}},
		{back(""), api.Sheet{}, back("d"), []int{0, 2}},
		{back("a"), back("c/c"), back("d/e/e/e"), []int{0, 1, 2}},
	} {
		l, e := hand.Torn(parts(text, shares, x.first, x.second, x.third))
		wantList(t, x, l, e, x.want...)
	}
}

// P5.3: two parts differ by any line that they share, and by no other one; and only if both are back, and neither is torn.
func TestDiffer(t *testing.T) {
	text := book("a/b c/d/e", "f/g")
	two := []api.Share{share(0, 3, 0, 0), share(2, 5, 0, 0)}
	pair := [][2]int{{0, 1}}
	for _, x := range []struct {
		shares        []api.Share
		first, second api.Sheet
		want          [][2]int
	}{
		{two, back("a/b c/d/e"), back("d/e/f/g"), nil},
		{two, back("x/y/d/e"), back("d/e/x/y"), nil},
		// Both may be wrong about the same line in the same way.
		{two, back("a/b c/x/y"), back("x/y/f/g"), nil},
		{two, back("a/b c/x/e"), back("d/e/f/g"), pair},
		{two, back("a/b c/d/x"), back("d/e/f/g"), pair},
		{two, back("a/b c/d/e"), back("x/e/f/g"), pair},
		{two, back("a/b c/d/e"), back("d/x/f/g"), pair},
		{two, back("a/b c/x/y"), back("d/e/f/g"), pair},
		{two, back("a/b c/e/d"), back("d/e/f/g"), pair},
		{two, back("a/b c/d d/e"), back("d/e/f/g"), pair},
		{two, back("a/b c/d/e e"), back("d/e/f/g"), pair},
		{two, back("a/b c/x/e"), api.Sheet{}, nil},
		{two, api.Sheet{}, back("x/e/f/g"), nil},
		{two, back("a/b c/x"), back("d/e/f/g"), nil},
		{two, back("a/b c/x/e/e"), back("d/e/f/g"), nil},
		{two, back("a/b c/x/e"), back("d/e/f"), nil},
		{two, back("a/b c/x/e"), back("d/e/f/g/g"), nil},
		{[]api.Share{share(0, 2, 0, 0), share(3, 5, 0, 0)}, back("a/b c/x"), back("y/f/g"), nil},
		{[]api.Share{share(0, 3, 0, 0), share(3, 5, 0, 0)}, back("a/b c/d/e"), back("x/f/g"), pair},
		{[]api.Share{share(0, 4, 0, 0), share(1, 5, 0, 0)}, back("a/b c/d/e/f"), back("c b/d/e/f/g"), pair},
	} {
		l, e := hand.Differ(parts(text, x.shares, x.first, x.second))
		wantList(t, x, l, e, x.want...)
	}
}

// chain is a round of parts that share a line with each next one: a is right, b reads both shared lines in a way of its own, c just the last one, t is torn, and - is not back.
func chain(s string) api.Round {
	r := api.Round{Text: numbered(10, 10), Helpers: []api.Helper{{Rate: 1}}}
	for i, kind := range s {
		r.Shares = append(r.Shares, share(2*i, 2*i+2, 0, 0))
		sheet := right(r.Text, r.Shares[i])
		switch kind {
		case 'b':
			sheet.Lines[0], sheet.Lines[2] = []string{named(100 + i)}, []string{named(100 + i)}
		case 'c':
			sheet.Lines[2] = []string{named(100 + i)}
		case 't':
			sheet.Lines = sheet.Lines[1:]
		case '-':
			sheet = api.Sheet{}
		}
		r.Sheets = append(r.Sheets, sheet)
	}
	return r
}

// P5.4: the fewest parts, of several lists the first one; and what proves it.
func TestAgain(t *testing.T) {
	for _, x := range []struct {
		kinds string
		again []int
		torn  []int
		pairs [][2]int
	}{
		{"", nil, nil, nil},
		{"a", nil, nil, nil},
		{"b", nil, nil, nil},
		{"t", []int{0}, []int{0}, nil},
		{"-", nil, nil, nil},
		{"aa", nil, nil, nil},
		{"ba", []int{0}, nil, [][2]int{{0, 1}}},
		{"ab", []int{0}, nil, [][2]int{{0, 1}}},
		{"ca", []int{0}, nil, [][2]int{{0, 1}}},
		{"b-b", nil, nil, nil},
		{"btb", []int{1}, []int{1}, nil},
		{"aba", []int{1}, nil, [][2]int{{0, 1}}},
		{"bbb", []int{1}, nil, [][2]int{{0, 1}}},
		{"aca", []int{1}, nil, [][2]int{{1, 2}}},
		{"bbbb", []int{0, 2}, nil, [][2]int{{0, 1}, {2, 3}}},
		{"bbbbb", []int{1, 3}, nil, [][2]int{{0, 1}, {2, 3}}},
		{"bbbbbbbb", []int{0, 2, 4, 6}, nil, [][2]int{{0, 1}, {2, 3}, {4, 5}, {6, 7}}},
		{"abaaaaba", []int{1, 6}, nil, [][2]int{{0, 1}, {5, 6}}},
		{"ctbb-tab", []int{1, 2, 5, 6}, []int{1, 5}, [][2]int{{2, 3}, {6, 7}}},
		{"tttttttt", []int{0, 1, 2, 3, 4, 5, 6, 7}, []int{0, 1, 2, 3, 4, 5, 6, 7}, nil},
		{"aaaaaaaa", nil, nil, nil},
	} {
		r := chain(x.kinds)
		again, e := hand.Again(r)
		torn, pairs, proved := hand.Proof(r)
		wantList(t, x.kinds, again, e, x.again...)
		wantList(t, x.kinds, torn, proved, x.torn...)
		wantList(t, x.kinds, pairs, proved, x.pairs...)
	}
}

// P5.3, P5.4 and P5.8: what is told is what the document says, in rounds of any kind; the proof is as much as is to be written again.
func TestProof(t *testing.T) {
	d := dice(10)
	most, pairsMost := 0, 0
	for range 3000 {
		r, _ := d.round(8)
		torn, e := hand.Torn(r)
		wantList(t, r, torn, e, tornOf(r)...)
		differ, e := hand.Differ(r)
		wantList(t, r, differ, e, pairsOf(r)...)
		again, e := hand.Again(r)
		wantList(t, r, again, e, againOf(r)...)
		proof, pairs, e := hand.Proof(r)
		wantList(t, r, proof, e, torn...)
		wantList(t, r, pairs, e, matched(differ)...)
		if len(proof)+len(pairs) != len(again) {
			t.Error(r, again, proof, pairs)
		}
		most, pairsMost = max(most, len(again)), max(pairsMost, len(pairs))
	}
	if most < 6 || pairsMost < 4 {
		t.Error(most, pairsMost)
	}
}

// matched is each pair, in their order, of which no part is in one that is taken.
func matched(pairs [][2]int) [][2]int {
	var l [][2]int
	for _, p := range pairs {
		if !slices.ContainsFunc(l, func(q [2]int) bool { return p[0] == q[0] || p[0] == q[1] || p[1] == q[0] || p[1] == q[1] }) {
			l = append(l, p)
		}
	}
	return l
}

// N5 and P5.8: in whatever way faults were made, there are as many parts with faults as are to be written again, at least; each one that is torn has a fault, and one of each pair.
func TestFaultsAreFound(t *testing.T) {
	d := dice(11)
	found := 0
	for range 2000 {
		r, _ := d.round(8)
		var faulty []int
		for part, s := range r.Sheets {
			if s.Back && !slices.EqualFunc(s.Lines, right(r.Text, r.Shares[part]).Lines, slices.Equal[[]string]) {
				faulty = append(faulty, part)
			}
		}
		again, e := hand.Again(r)
		if e != api.OK || len(again) > len(faulty) {
			t.Error(r, again, faulty, e)
		}
		torn, pairs, _ := hand.Proof(r)
		for _, part := range torn {
			if !slices.Contains(faulty, part) {
				t.Error(r, torn, faulty)
			}
		}
		for _, pair := range pairs {
			if !slices.Contains(faulty, pair[0]) && !slices.Contains(faulty, pair[1]) {
				t.Error(r, pairs, faulty)
			}
		}
		found += len(pairs)
	}
	if found < 100 {
		t.Error(found)
	}
}

// P5.8: parts without a fault are never torn, and never differ.
func TestPartsWithoutAFault(t *testing.T) {
	d := dice(12)
	for range 500 {
		r, _ := d.round(8)
		r = with(r, func(r *api.Round) {
			for part, s := range r.Sheets {
				if s.Back {
					r.Sheets[part] = right(r.Text, r.Shares[part])
				}
			}
		})
		torn, e := hand.Torn(r)
		wantList(t, r, torn, e)
		pairs, e := hand.Differ(r)
		wantList(t, r, pairs, e)
		again, e := hand.Again(r)
		wantList(t, r, again, e)
	}
}

// asBack is a round whose text has each line as a part has it that is back, and not to be written again.
func asBack(r api.Round, again []int) api.Round {
	return with(r, func(r *api.Round) {
		n := 0
		for i, c := range r.Text.Chapters {
			for j := range c.Lines {
				for part, s := range r.Shares {
					if r.Sheets[part].Back && !slices.Contains(again, part) && s.From <= n && n <= s.To {
						r.Text.Chapters[i].Lines[j] = slices.Clone(r.Sheets[part].Lines[n-s.From])
					}
				}
				n++
			}
		}
	})
}

// P5.9: there is a text for which all parts that are back, and not to be written again, have no fault; for fewer parts there is none, as one that is torn is left, or two that differ.
func TestTextWithoutAFault(t *testing.T) {
	d := dice(13)
	for range 500 {
		r, _ := d.round(6)
		again, _ := hand.Again(r)
		other := asBack(r, again)
		for part, s := range other.Sheets {
			if s.Back && !slices.Contains(again, part) {
				l, e := hand.Explain(other, part)
				wantList(t, part, l, e)
			}
		}
		for _, l := range all(len(r.Shares)) {
			if len(l) < len(again) && isEnough(r, l) {
				t.Error(r, again, l)
			}
		}
	}
}
