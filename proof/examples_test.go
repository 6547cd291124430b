package proof_test

import (
	"testing"

	"postil/api"
	"postil/proof"
)

// The examples of the chapter, row by row.
func TestExamplesOfPages(t *testing.T) {
	for page, want := range []int{4, 6} {
		n, e := proof.Words(sample(), page)
		wantOne(t, page, n, e, want)
	}
	l, e := proof.Found(sample(), 0)
	wantList(t, "found", l, e, place(0, 0, 0), place(0, 0, 3))
	l, e = proof.Both(sample(), 0)
	wantList(t, "both", l, e, place(0, 0, 0))
	s, e := proof.Guess(sample(), 0)
	wantOne(t, "guess of 0", s, e, api.Span{Lo: 2, Hi: 2})
	s, e = proof.Guess(sample(), 1)
	wantOne(t, "guess of 1", e, api.OK, api.ErrNone)
	wantOne(t, "guess of 1", s, api.OK, api.Span{})
}

func TestExamplesOfBound(t *testing.T) {
	for reader, want := range []int{4, 0} {
		n, e := proof.Bound(sample(), false, reader)
		wantOne(t, reader, n, e, want)
	}
	n, e := proof.Bound(sample(), true, 0)
	wantOne(t, "second", n, e, 5)
}

func TestExamplesOfRemain(t *testing.T) {
	for page := range 2 {
		s, e := proof.Remain(sample(), page)
		wantOne(t, page, s, e, api.Span{Lo: 0, Hi: 1})
	}
	s, e := proof.Total(sample())
	wantOne(t, "total", s, e, api.Span{Lo: 0, Hi: 1})
	l, e := proof.Worst(sample())
	wantList(t, "worst", l, e, 1, 0)
	firsts, seconds, e := proof.Why(sample())
	wantList(t, "firsts", firsts, e, 0)
	wantList(t, "seconds", seconds, e)
	l, e = proof.Chief(sample(), 0)
	wantList(t, "none remains", l, e, 0, 1)
	l, e = proof.Chief(sample(), 1)
	wantList(t, "one remains", l, e)
}

// Example 9 of the document: four errors at most by a reader who misses half, of which three are found; one may remain.
func TestExampleOfDocument(t *testing.T) {
	p := rows(readers(1, 50), readers(2, 80), row{words: 9, first: 0, second: 0, found: 2, foundAsWell: 1})
	n, e := proof.Bound(p, false, 0)
	wantOne(t, "bound", n, e, 4)
	l, e := proof.Found(p, 0)
	wantOne(t, "found", len(l), e, 3)
	s, e := proof.Total(p)
	wantOne(t, "total", s, e, api.Span{Lo: 0, Hi: 1})
}
