package proof_test

import (
	"slices"
	"testing"

	"postil/api"
	"postil/proof"
)

// hiOf is the most that some numbers come to, of all lists.
func hiOf(lists [][]int, of func(l []int) int) int {
	n := 0
	for _, l := range lists {
		n = max(n, of(l))
	}
	return n
}

// loOf is the least that some numbers come to.
func loOf(lists [][]int, of func(l []int) int) int {
	n := of(lists[0])
	for _, l := range lists {
		n = min(n, of(l))
	}
	return n
}

// worstOf is the list with the greatest sum, and of several such ones the greatest one.
func worstOf(lists [][]int) []int {
	return slices.MaxFunc(lists, func(a, b []int) int {
		if sum(a) != sum(b) {
			return sum(a) - sum(b)
		}
		return slices.Compare(a, b)
	})
}

// whyOf is the first list of readers who prove no more than any other ones: all of them are tried.
func whyOf(p api.Proofs) (firsts, seconds []int) {
	least := -1
	for _, l := range all(len(p.Firsts) + len(p.Seconds)) {
		x, y := sided(p, l)
		if n := provedBy(p, x, y); least < 0 || n < least {
			least, firsts, seconds = n, x, y
		}
	}
	return firsts, seconds
}

// chiefOf is the first list of pages on whose other pages no more than so many errors remain.
func chiefOf(p api.Proofs, most int, left func(pages []int) int) []int {
	for _, l := range all(len(p.Pages)) {
		if left(l) <= most {
			return l
		}
	}
	return nil
}

// wantRemain checks all that is told of truths against all truths, and tells whether there is one.
func wantRemain(t *testing.T, p api.Proofs) bool {
	t.Helper()
	truths := remains(p)
	if len(truths) == 0 {
		wantErrors(t, input{p: p}, api.ErrBad, "Total", "Worst", "Why", "Chief")
		for page := range p.Pages {
			wantErrors(t, input{p: p, page: page}, api.ErrBad, "Remain")
		}
		return false
	}
	for page := range p.Pages {
		onPage := func(l []int) int { return l[page] }
		s, e := proof.Remain(p, page)
		wantOne(t, brief(p), s, e, api.Span{Lo: loOf(truths, onPage), Hi: hiOf(truths, onPage)})
	}
	total, e := proof.Total(p)
	wantOne(t, brief(p), total, e, api.Span{Lo: loOf(truths, sum), Hi: hiOf(truths, sum)})
	worst, e := proof.Worst(p)
	wantList(t, brief(p), worst, e, worstOf(truths)...)
	x, y := whyOf(p)
	firsts, seconds, e := proof.Why(p)
	wantList(t, brief(p), firsts, e, x...)
	wantList(t, brief(p), seconds, e, y...)
	wantOne(t, brief(p), provedBy(p, firsts, seconds), e, total.Hi)
	for most := range total.Hi + 2 {
		l, e := proof.Chief(p, most)
		wantList(t, brief(p), l, e, chiefOf(p, most, func(pages []int) int {
			return hiOf(truths, func(l []int) int { return without(l, pages) })
		})...)
	}
	return true
}

// P9.4 to P9.10: what remains of proofs of two pages, whoever has read them, and whatever they found, against all truths.
func TestSmallProofs(t *testing.T) {
	truths, none := 0, 0
	for _, miss := range [][]int{{0, 0, 0}, {50, 0, 50}, {0, 50, 50}, {50, 50, 67}, {90, 50, 0}, {67, 67, 90}} {
		for a := range 3 {
			for b := range 3 {
				for c := range 2 {
					for d := range 2 {
						for found := range 3 * 3 * 3 * 3 {
							x := row{words: 3, first: a - 1, second: c - 1, found: found % 3 * min(a, 1), foundAsWell: found / 3 % 3 * c}
							y := row{words: 2, first: b - 1, second: d - 1, found: found / 9 % 3 * min(b, 1), foundAsWell: found / 27 % 3 * d}
							if wantRemain(t, rows(readers(1, miss[0], miss[1]), readers(3, miss[2]), x, y)) {
								truths++
							} else {
								none++
							}
						}
					}
				}
			}
		}
	}
	if truths < 1000 || none < 1000 {
		t.Error(truths, none)
	}
}

// P9.4 to P9.12: what remains of up to four pages, of any kind, against all truths.
func TestProofsAgainstTruths(t *testing.T) {
	d := dice(7)
	truths := 0
	for range 3000 {
		if p := d.proofs(4, 3); wantRemain(t, p) {
			truths++
		}
	}
	if truths < 1500 {
		t.Error(truths)
	}
}

// P9.4 to P9.12: what remains of up to eight pages, of few words.
func TestManyPagesAgainstTruths(t *testing.T) {
	d := dice(8)
	many := 0
	for range 60 {
		p, _ := d.honest(d.begun(lined(1, 2, 1, 3, 2, 1, 2, 1, 2), 8, 1))
		wantRemain(t, p)
		if n, _ := proof.Total(p); len(p.Pages) == 8 && n.Hi > 1 {
			many++
		}
	}
	if many < 10 {
		t.Error(many)
	}
}

// P9.4: what remains on a page is bounded by its words, by its first reader, or by its second one, whichever bounds it the most.
func TestRemainOnAPage(t *testing.T) {
	for _, x := range []struct {
		first, second int
		page, other   row
		want          int
	}{
		{90, 90, row{words: 4, found: 2, foundAsWell: 2}, row{words: 1}, 0},
		{90, 90, row{words: 5, found: 2, foundAsWell: 2}, row{words: 1}, 1},
		{50, 90, row{words: 10, found: 3, foundAsWell: 2}, row{words: 9}, 1},
		{90, 50, row{words: 10, found: 3, foundAsWell: 3}, row{words: 9}, 0},
		{90, 67, row{words: 10, found: 3, foundAsWell: 3}, row{words: 9}, 3},
		// The other page has errors that are found, and readers of its own.
		{50, 90, row{words: 10, found: 3, foundAsWell: 2}, row{words: 9, found: 2}, 3},
		{50, 90, row{words: 10, found: 3, foundAsWell: 2}, row{words: 9, first: -1, foundAsWell: 2}, 1},
		{50, 50, row{words: 10, first: -1, foundAsWell: 2}, row{words: 9, second: -1, found: 2}, 2},
		{50, 50, row{words: 10, first: -1, foundAsWell: 2}, row{words: 9, foundAsWell: 1, found: 1}, 2},
		{0, 0, row{words: 10, first: -1, second: -1}, row{words: 9}, 10},
		{0, 0, row{words: 10, second: -1}, row{words: 9}, 0},
		{0, 0, row{words: 10, first: -1}, row{words: 9}, 0},
	} {
		for page := range 2 {
			l := []row{x.page, x.other}
			if page == 1 {
				l = []row{x.other, x.page}
			}
			s, e := proof.Remain(rows(readers(1, x.first), readers(2, x.second), l...), page)
			wantOne(t, x, s, e, api.Span{Lo: 0, Hi: x.want})
		}
	}
}

// P9.5: of truths in which as much remains it is the one with the most on the first page, then on the next one, and so on; but more on all pages goes ahead.
func TestWorst(t *testing.T) {
	none, first, second := row{words: 7, first: -1, second: -1}, row{words: 10, second: -1, found: 6}, row{words: 10, first: -1, foundAsWell: 6}
	for _, x := range []struct {
		first, second int
		rows          []row
		want          []int
	}{
		{0, 0, nil, nil},
		{0, 0, []row{none}, []int{7}},
		{0, 0, []row{first, first}, []int{0, 0}},
		// 12 are found on two pages, and 14 are bounded, then 15, 17, 20; on each page 4 words are left.
		{15, 0, []row{first, first, none}, []int{2, 0, 7}},
		{20, 0, []row{first, first}, []int{3, 0}},
		{30, 0, []row{first, first}, []int{4, 1}},
		{40, 0, []row{first, first}, []int{4, 4}},
		{0, 30, []row{second, none, second}, []int{4, 7, 1}},
		{30, 15, []row{second, first, second, first}, []int{2, 4, 0, 1}},
		// If an error remains on a page of both readers, none of theirs does on the pages that each has alone.
		{50, 50, []row{{words: 9}, {words: 9, second: -1, found: 1}, {words: 9, first: -1, foundAsWell: 1}}, []int{0, 1, 1}},
		{67, 67, []row{{words: 9}, {words: 9, second: -1, found: 1}, {words: 9, first: -1, foundAsWell: 1}}, []int{0, 2, 2}},
		{67, 67, []row{{words: 9}, {words: 2, second: -1, found: 1}, {words: 9, first: -1, foundAsWell: 1}}, []int{1, 1, 1}},
		{67, 67, []row{{words: 9}, {words: 1, second: -1, found: 1}, {words: 9, first: -1, foundAsWell: 1}}, []int{2, 0, 0}},
		{67, 67, []row{{words: 9, second: -1, found: 1}, {words: 9}, {words: 9, first: -1, foundAsWell: 1}}, []int{2, 0, 2}},
		// The page 1 has no more words, so that what its reader leaves is for the page 2.
		{50, 50, []row{none, {words: 3, second: -1, found: 2}, {words: 9}, {words: 9, first: -1, foundAsWell: 1}}, []int{7, 1, 1, 0}},
		{67, 50, []row{{words: 9, second: -1, found: 1}, {words: 9, first: -1, foundAsWell: 1}, {words: 9}}, []int{2, 1, 0}},
	} {
		p := rows(readers(1, x.first), readers(2, x.second), x.rows...)
		l, e := proof.Worst(p)
		wantList(t, brief(p), l, e, x.want...)
		wantList(t, brief(p), l, e, worstOf(remains(p))...)
	}
}

// P9.6: the fewest readers who prove the most that remains: none, if it is all words; of several lists the first one.
func TestWhy(t *testing.T) {
	none := row{words: 3, first: -1, second: -1}
	for _, x := range []struct {
		firsts, seconds []api.Reader
		rows            []row
		want            [2][]int
	}{
		{nil, nil, nil, [2][]int{}},
		{readers(1, 0, 0, 0), readers(4, 0, 0, 0), nil, [2][]int{}},
		{readers(1, 0, 0, 0), readers(4, 0, 0, 0), []row{none, none}, [2][]int{}},
		// Either reader proves it, or the words do.
		{readers(1, 0), readers(4, 0), []row{{words: 3}}, [2][]int{{0}, nil}},
		{readers(1, 0), readers(4, 0), []row{{words: 3, found: 3, foundAsWell: 3}}, [2][]int{}},
		{readers(1, 90), readers(4, 50), []row{{words: 9, found: 3, foundAsWell: 4}}, [2][]int{nil, {0}}},
		{readers(1, 50), readers(4, 90), []row{{words: 9, found: 4, foundAsWell: 3}}, [2][]int{{0}, nil}},
		{readers(1, 90), readers(4, 90), []row{{words: 9, found: 4, foundAsWell: 3}}, [2][]int{}},
		{readers(1, 0), readers(4, 0), []row{{words: 3, first: -1}}, [2][]int{nil, {0}}},
		{readers(1, 0, 0), readers(4, 0), []row{{words: 3, first: 1}}, [2][]int{{1}, nil}},
		{readers(1, 0), readers(4, 0, 0, 0), []row{{words: 3, first: -1, second: 2}}, [2][]int{nil, {2}}},
		// One reader of all pages, and not one of each of them.
		{readers(1, 0, 0, 0), readers(4, 0), []row{{words: 3}, {words: 3, first: 1}, {words: 3, first: 2}}, [2][]int{nil, {0}}},
		{readers(1, 0), readers(4, 0, 0, 0), []row{{words: 3}, {words: 3, second: 1}, {words: 3, second: 2}}, [2][]int{{0}, nil}},
		// Two readers of two pages each: the first ones.
		{readers(1, 0, 0), readers(4, 0, 0), []row{{words: 3}, {words: 3, first: 1, second: 1}}, [2][]int{{0, 1}, nil}},
		{readers(1, 0, 0), readers(4, 0, 0), []row{{words: 3}, {words: 3, second: 1}, {words: 3, first: 1, second: 1}}, [2][]int{{0, 1}, nil}},
		{readers(1, 0, 0, 0), readers(4, 0, 0), []row{{words: 3}, {words: 3, second: 1}, {words: 3, first: 1}, {words: 3, first: 2}}, [2][]int{{0}, {0}}},
		{readers(1, 0, 0, 0), readers(4, 0, 0, 0), []row{{words: 3, first: 2}, {words: 3, first: 2, second: 1}, {words: 3, second: 2}, {words: 3, first: 1, second: 2}}, [2][]int{{2}, {2}}},
		{readers(1, 0, 0, 0), readers(4, 0, 0, 0), []row{{words: 3}, {words: 3, first: 1, second: 1}, {words: 3, first: 2, second: 2}, none}, [2][]int{{0, 1, 2}, nil}},
		{readers(1, 0, 0, 0), readers(4, 0, 0, 0), []row{{words: 3, second: -1}, {words: 3, first: 1, second: 1}, {words: 3, first: -1, second: 2}, none}, [2][]int{{0, 1}, {2}}},
	} {
		p := rows(x.firsts, x.seconds, x.rows...)
		firsts, seconds, e := proof.Why(p)
		wantList(t, brief(p), firsts, e, x.want[0]...)
		wantList(t, brief(p), seconds, e, x.want[1]...)
		a, b := whyOf(p)
		wantList(t, brief(p), firsts, e, a...)
		wantList(t, brief(p), seconds, e, b...)
	}
}

// P9.7: the fewest pages, of several lists the first one, by how many errors may remain.
func TestChief(t *testing.T) {
	// On the page 0 two errors may remain, by its reader; 4, 3 and 2 words are read by nobody.
	p := rows(readers(1, 50), nil, row{words: 10, second: -1, found: 2}, row{words: 4, first: -1, second: -1}, row{words: 3, first: -1, second: -1}, row{words: 2, first: -1, second: -1})
	for most, want := range [][]int{{0, 1, 2, 3}, {0, 1, 2, 3}, {0, 1, 2}, {0, 1, 2}, {1, 2}, {0, 1}, {0, 1}, {1}, {1}, {0}, {0}, {}, {}} {
		l, e := proof.Chief(p, most)
		wantList(t, most, l, e, want...)
	}
	// What remains of three pages remains on any of them.
	p = rows(readers(1, 50), nil, row{words: 10, second: -1, found: 2}, row{words: 10, second: -1}, row{words: 1, second: -1})
	for most, want := range [][]int{{0, 1, 2}, {0, 1}, {}, {}} {
		l, e := proof.Chief(p, most)
		wantList(t, most, l, e, want...)
	}
}

// roomy is proofs by chance of up to eight pages of many words.
func roomy(d *dice) api.Proofs {
	p := d.begun(d.text(6, 8, 10), 8, 6)
	for {
		q, _ := d.honest(p)
		if _, e := proof.Total(q); e == api.OK {
			return q
		}
	}
}

// steps is all lists of so many numbers from -1 to 1 with which a truth would be worse: more remains, or as much, and more on the first page that differs.
func steps(n int) [][]int {
	lists := [][]int{nil}
	for range n {
		var longer [][]int
		for _, l := range lists {
			for step := -1; step <= 1; step++ {
				longer = append(longer, append(slices.Clone(l), step))
			}
		}
		lists = longer
	}
	zero := make([]int, n)
	return slices.DeleteFunc(lists, func(l []int) bool {
		return sum(l) < 0 || sum(l) == 0 && slices.Compare(l, zero) <= 0
	})
}

// P9.4 to P9.10: in great proofs the worst truth is one, with as much as is told, and as the readers prove; no step leads to a worse one, and so, as in each flow, there is none.
func TestGreatProofs(t *testing.T) {
	d := dice(9)
	found := map[int]int{}
	for range 150 {
		p := roomy(&d)
		total, e := proof.Total(p)
		wantOne(t, brief(p), total, e, api.Span{Lo: 0, Hi: flowOf(p, nil)})
		worst, e := proof.Worst(p)
		wantOne(t, brief(p), sum(worst), e, total.Hi)
		if !isTruth(p, errorsOf(p, worst)) {
			t.Error(brief(p), worst)
		}
		for _, step := range steps(len(p.Pages)) {
			for page := range step {
				step[page] += worst[page]
			}
			if isTruth(p, errorsOf(p, step)) {
				t.Error(brief(p), worst, step)
			}
		}
		firsts, seconds, e := proof.Why(p)
		a, b := whyOf(p)
		wantList(t, brief(p), firsts, e, a...)
		wantList(t, brief(p), seconds, e, b...)
		wantOne(t, brief(p), provedBy(p, firsts, seconds), e, total.Hi)
		for page := range p.Pages {
			var others []int
			for other := range p.Pages {
				if other != page {
					others = append(others, other)
				}
			}
			s, e := proof.Remain(p, page)
			wantOne(t, brief(p), s, e, api.Span{Lo: 0, Hi: flowOf(p, others)})
		}
		found[len(firsts)+len(seconds)]++
	}
	if found[0] < 5 || found[1] < 5 || found[2] < 5 || found[3] < 5 {
		t.Error(found)
	}
}

// P9.7 and P9.12: with the pages that the chief reads no more remains than is asked for; with fewer ones, or with a list before them, more may.
func TestChiefOfGreatProofs(t *testing.T) {
	d := dice(10)
	found := map[int]bool{}
	for range 60 {
		p := roomy(&d)
		total, _ := proof.Total(p)
		for _, most := range []int{0, 1, total.Hi / 4, total.Hi / 2, total.Hi - 1, total.Hi, total.Hi + 1} {
			l, e := proof.Chief(p, max(most, 0))
			wantList(t, brief(p), l, e, chiefOf(p, max(most, 0), func(pages []int) int { return flowOf(p, pages) })...)
			found[len(l)] = true
		}
	}
	for n := range api.MaxPages {
		if !found[n] {
			t.Error(n)
		}
	}
}

// P9.8 and N9: whatever the errors are, and whatever readers missed of them, there is a truth, and what remains is within what is told.
func TestErrorsThatRemain(t *testing.T) {
	d := dice(11)
	remained := 0
	for range 3000 {
		p, errors := d.honest(d.begun(d.text(4, 6, 6), 8, 3))
		all := 0
		for page, l := range errors {
			found, e := proof.Found(p, page)
			for _, at := range found {
				if !slices.Contains(l, at) {
					t.Error(brief(p), page, at)
				}
			}
			n := len(l) - len(found)
			s, f := proof.Remain(p, page)
			if e != api.OK || f != api.OK || n < s.Lo || n > s.Hi {
				t.Error(brief(p), page, n, s, e, f)
			}
			all += n
		}
		s, e := proof.Total(p)
		if e != api.OK || all < s.Lo || all > s.Hi {
			t.Error(brief(p), all, s, e)
		}
		for reader := range p.Firsts {
			sum := 0
			ofReader(p, false, reader, func(page, _ int) { sum += len(errors[page]) })
			if n, e := proof.Bound(p, false, reader); e != api.OK || sum > n {
				t.Error(brief(p), reader, sum, n, e)
			}
		}
		for _, most := range []int{0, 1, 3} {
			l, e := proof.Chief(p, most)
			left := all
			for _, page := range l {
				left -= len(errors[page]) - len(foundOn(p, page))
			}
			if e != api.OK || left > most {
				t.Error(brief(p), most, l, left, e)
			}
		}
		remained += all
	}
	if remained < 3000 {
		t.Error(remained)
	}
}
