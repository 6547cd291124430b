package galley_test

import (
	"testing"

	"postil/api"
	"postil/galley"
)

// The examples of the chapter, row by row.
func TestExamplesOfEnds(t *testing.T) {
	n, e := galley.Total(sample())
	wantOne(t, "total", n, e, 15)
	l, e := galley.Ends(sample())
	wantList(t, "ends", l, e, 3, 5, 7, 8, 9, 11, 13, 15)
}

func TestExamplesOfBreak(t *testing.T) {
	l, e := galley.Break(sample())
	wantList(t, "break", l, e, 5, 9, 13, 15)
	n, e := galley.Waste(sample(), []int{5, 9, 13, 15})
	wantOne(t, "waste", n, e, 2)
	n, e = galley.Waste(sample(), []int{3, 8, 13, 15})
	wantOne(t, "waste", n, e, 4)
	l, e = galley.Proof(sample())
	wantList(t, "proof", l, e, 0, 4, 0, 5, 4, 1, 6, 2, 2)
}

func TestExamplesOfAt(t *testing.T) {
	breaks := []int{5, 9, 13, 15}
	column, row, e := galley.At(sample(), breaks, 9)
	wantOne(t, "line 9", [2]int{column, row}, e, [2]int{2, 0})
	column, row, e = galley.At(sample(), breaks, 4)
	wantOne(t, "line 4", [2]int{column, row}, e, [2]int{0, 4})
	first, last, e := galley.Columns(sample(), breaks, 2)
	wantOne(t, "old", [2]int{first, last}, e, [2]int{1, 2})
	l, e := galley.Torn(sample(), breaks)
	wantList(t, "torn", l, e, 2, 3)
}

func TestExamplesOfFix(t *testing.T) {
	x, l, from, to, e := galley.Fix(sample(), []int{5, 9, 13, 15}, 1, 3)
	wantGalley(t, "fix", x, e, api.Galley{Height: 5, Blocks: []api.Block{{Word: "and", Lines: 3}, {Word: "is", Lines: 3}, {Word: "old", Lines: 6}, {Word: "sea", Lines: 4}}})
	wantList(t, "fix", l, e, 3, 6, 10, 14, 16)
	wantOne(t, "fix", [2]int{from, to}, e, [2]int{0, 0})
}

func TestExamplesOfSet(t *testing.T) {
	text := book("the sea is old/old the sea", "sea and sea")
	text.Chapters[1].Id = 3
	g, e := galley.Set(text, api.Cut{Width: 14, Side: api.SideEven}, 4)
	wantGalley(t, "set", g, e, api.Galley{Height: 4, Blocks: []api.Block{{Word: "and", Lines: 2}, {Word: "is", Lines: 2}, {Word: "old", Lines: 3}, {Word: "sea", Lines: 5}, {Word: "the", Lines: 3}}})
}
