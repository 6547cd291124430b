package proof_test

import (
	"slices"
	"testing"

	"postil/api"
	"postil/proof"
)

// P9.1: the words of a page are those of its lines, also over the end of a chapter.
func TestWords(t *testing.T) {
	text := book("a b c/d", "e f/g h i j k/l")
	words := []int{3, 1, 2, 5, 1}
	for from := range words {
		for to := from; to < len(words); to++ {
			p := api.Proofs{Text: text, Pages: []api.Page{{From: from, To: to, First: -1, Second: -1}}}
			n, e := proof.Words(p, 0)
			wantOne(t, brief(p), n, e, sum(words[from:to+1]))
		}
	}
}

// P9.1: what is found and what both found, of all that two readers may find on a page of four words.
func TestFound(t *testing.T) {
	text := book("a", "b c/d", "e f/g")
	on := placesOf(text, 1, 3)
	some := func(bits int) []api.Place {
		var l []api.Place
		for i, at := range on {
			if bits>>i&1 == 1 {
				l = append(l, at)
			}
		}
		return l
	}
	for first := range 1 << len(on) {
		for second := range 1 << len(on) {
			p := api.Proofs{Text: text, Firsts: readers(1, 0), Seconds: readers(2, 0), Pages: []api.Page{{First: -1, Second: -1}, {From: 1, To: 3, Found: some(first), FoundAsWell: some(second)}}}
			l, e := proof.Found(p, 1)
			wantList(t, brief(p), l, e, some(first|second)...)
			l, e = proof.Both(p, 1)
			wantList(t, brief(p), l, e, some(first&second)...)
			wantGuess(t, p, 1)
			for _, call := range []func(p api.Proofs, page int) ([]api.Place, api.Errno){proof.Found, proof.Both} {
				l, e = call(p, 0)
				wantList(t, brief(p), l, e)
			}
		}
	}
}

// wantGuess checks what is guessed of a page: no number that is less is enough, or is not too much.
func wantGuess(t *testing.T, p api.Proofs, page int) {
	t.Helper()
	x, both := p.Pages[page], len(bothOn(p, page))
	s, e := proof.Guess(p, page)
	if both == 0 {
		wantErrors(t, input{p: p, page: page}, api.ErrNone, "Guess")
		return
	}
	product, n := len(x.Found)*len(x.FoundAsWell), 0
	for (n+1)*both <= product {
		n++
	}
	want := api.Span{Lo: n, Hi: n}
	if n*both < product {
		want.Hi++
	}
	wantOne(t, brief(p), s, e, want)
}

// P9.3: what is guessed, rounded down and rounded up; also if it is more than the page has words.
func TestGuess(t *testing.T) {
	for _, x := range []struct {
		words, first, second int
		want                 api.Span
	}{
		{1, 1, 1, api.Span{Lo: 1, Hi: 1}},
		{2, 2, 1, api.Span{Lo: 2, Hi: 2}},
		{3, 2, 2, api.Span{Lo: 4, Hi: 4}},
		{4, 3, 3, api.Span{Lo: 4, Hi: 5}},
		{4, 4, 3, api.Span{Lo: 4, Hi: 4}},
		{6, 4, 5, api.Span{Lo: 6, Hi: 7}},
		{7, 5, 5, api.Span{Lo: 8, Hi: 9}},
		{9, 5, 5, api.Span{Lo: 25, Hi: 25}},
		{10, 7, 6, api.Span{Lo: 14, Hi: 14}},
		{10, 8, 8, api.Span{Lo: 10, Hi: 11}},
		{10, 10, 10, api.Span{Lo: 10, Hi: 10}},
	} {
		p := rows(readers(1, 90), readers(2, 90), row{words: x.words, found: x.first, foundAsWell: x.second})
		s, e := proof.Guess(p, 0)
		wantOne(t, x, s, e, x.want)
		wantGuess(t, p, 0)
	}
	for _, x := range []row{{words: 4}, {words: 4, found: 4}, {words: 4, foundAsWell: 4}, {words: 4, found: 2, foundAsWell: 2}, {words: 4, first: -1, foundAsWell: 4}, {words: 4, second: -1, found: 4}, {words: 4, first: -1, second: -1}} {
		wantErrors(t, input{p: rows(readers(1, 90), readers(2, 90), x)}, api.ErrNone, "Guess")
	}
}

// P9.2: the bound is 100 times what is found, by what the reader does not miss, rounded down: for all that readers may miss, and may find on a page of ten words, on either side.
func TestBound(t *testing.T) {
	for miss := range api.MaxMiss + 1 {
		for found := range 11 {
			p := rows(readers(1, 7, miss), readers(3, 8), row{words: 10, first: 1, second: 0, found: found, foundAsWell: 3})
			n, e := proof.Bound(p, false, 1)
			wantOne(t, brief(p), n, e, 100*found/(100-miss))
			wantOne(t, brief(p), n, e, boundOf(p, false, 1))
			n, e = proof.Bound(swapped(p), true, 1)
			wantOne(t, brief(p), n, e, 100*found/(100-miss))
		}
	}
}

// P9.2: the bound is of all that the reader found, on all of the pages that this reader has read, and on no others; there is one if there is no truth, too.
func TestBoundOfPages(t *testing.T) {
	d := dice(4)
	untrue := 0
	for range 2000 {
		p := d.proofs(8, 3)
		for reader := range p.Firsts {
			n, e := proof.Bound(p, false, reader)
			wantOne(t, brief(p), n, e, boundOf(p, false, reader))
		}
		for reader := range p.Seconds {
			n, e := proof.Bound(p, true, reader)
			wantOne(t, brief(p), n, e, boundOf(p, true, reader))
		}
		if _, e := proof.Total(p); e == api.ErrBad {
			untrue++
		}
	}
	if untrue < 200 {
		t.Error(untrue)
	}
}

// P9.1, P9.3 and P9.13: what is told of each page is what the document says, and what is found is what either reader found, or both.
func TestPages(t *testing.T) {
	d := dice(5)
	for range 2000 {
		p := d.proofs(8, 5)
		for page, x := range p.Pages {
			n, e := proof.Words(p, page)
			wantOne(t, brief(p), n, e, len(placesOf(p.Text, x.From, x.To)))
			found, e := proof.Found(p, page)
			wantList(t, brief(p), found, e, foundOn(p, page)...)
			both, e := proof.Both(p, page)
			wantList(t, brief(p), both, e, bothOn(p, page)...)
			wantOne(t, brief(p), len(found)+len(both), e, len(x.Found)+len(x.FoundAsWell))
			wantGuess(t, p, page)
		}
	}
}

// P9.13: first readers and second ones may change their places; of what proves the most that remains it is only how many readers there are that does not change, as firsts go before seconds.
func TestSidesChangeTheirPlaces(t *testing.T) {
	d := dice(6)
	for range 2000 {
		p := d.proofs(6, 3)
		x := input{p: p, page: d.roll(6), second: d.roll(2) == 0, reader: d.roll(3), most: d.roll(3)}
		y := input{p: swapped(p), page: x.page, second: !x.second, reader: x.reader, most: x.most}
		first, second := x.all(), y.all()
		for i, o := range first {
			if o.call == "Why" {
				continue
			}
			if o.e != second[i].e || !slices.EqualFunc(o.results, second[i].results, equal) {
				t.Error(x, o, second[i])
			}
		}
		firsts, seconds, e := proof.Why(x.p)
		others, more, f := proof.Why(y.p)
		if e != f || len(firsts)+len(seconds) != len(others)+len(more) || e == api.OK && provedBy(x.p, firsts, seconds) != provedBy(x.p, more, others) {
			t.Error(x, firsts, seconds, e, others, more, f)
		}
	}
}
