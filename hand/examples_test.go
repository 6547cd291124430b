package hand_test

import (
	"testing"

	"postil/api"
	"postil/hand"
	"postil/slip"
)

// The examples of the chapter, row by row.
func TestExamplesOfLines(t *testing.T) {
	line, e := hand.Line(sample(), 2)
	wantList(t, "line 2", line, e, "sea", "and", "sea")
	gaps, e := hand.Gaps(sample())
	wantList(t, "gaps", gaps, e)
}

func TestExamplesOfBack(t *testing.T) {
	for part, want := range []int{9, 15} {
		day, e := hand.Back(sample(), part)
		wantOne(t, part, day, e, want)
	}
}

func TestExamplesOfAgain(t *testing.T) {
	torn, e := hand.Torn(sample())
	wantList(t, "torn", torn, e)
	pairs, e := hand.Differ(sample())
	wantList(t, "differ", pairs, e, [2]int{0, 1})
	again, e := hand.Again(sample())
	wantList(t, "again", again, e, 0)
	torn, pairs, e = hand.Proof(sample())
	wantList(t, "proof", torn, e)
	wantList(t, "proof", pairs, e, [2]int{0, 1})
}

func TestExamplesOfExplain(t *testing.T) {
	l, e := hand.Explain(sample(), 0)
	wantList(t, "faults of 0", l, e, api.Fault{Kind: api.FaultRead, Line: 1, Words: 1})
	l, e = hand.Explain(sample(), 1)
	wantList(t, "faults of 1", l, e)
}

func TestExamplesOfDoubt(t *testing.T) {
	l, e := hand.Doubt(sample(), even)
	all, _ := slip.All(sample().Text, even)
	wantList(t, "doubt", l, e, all[:4]...)
}

func TestExamplesOfAssign(t *testing.T) {
	helpers, last, e := hand.Assign(sample(), 20)
	wantList(t, "helpers", helpers, e, 0)
	wantOne(t, "last", last, e, 26)
}

func TestExamplesOfATornPart(t *testing.T) {
	r := sample()
	r.Sheets[0] = back("the sea is old/the sea is old/old the sea")
	torn, e := hand.Torn(r)
	wantList(t, "torn", torn, e, 0)
	l, e := hand.Explain(r, 0)
	wantList(t, "faults of 0", l, e, api.Fault{Kind: api.FaultRepeat, Line: 0})
}

// The example of DOC.md: two lines, by post of two days, one line a day.
func TestExampleOfTheDocument(t *testing.T) {
	r := parts(numbered(2), []api.Share{share(0, 1, 0, 3)}, api.Sheet{})
	r.Helpers[0].Post = 2
	day, e := hand.Back(r, 0)
	wantOne(t, "back", day, e, 9)
}
