package vote_test

import (
	"testing"

	"postil/api"
	"postil/vote"
)

// The examples of the chapter, row by row.
func TestExamplesOfTruths(t *testing.T) {
	n, e := vote.Count(sample())
	wantOne(t, "count", n, e, 1)
	l, e := vote.Truth(sample())
	wantList(t, "truth", l, e, 0, 1, 0)
	l, e = vote.Open(sample(), 0)
	wantList(t, "open 0", l, e, 0)
	l, e = vote.Open(sample(), 2)
	wantList(t, "open 2", l, e, 0)
	l, e = vote.Settled(sample())
	wantList(t, "settled", l, e, 0, 1, 0)
}

func TestExamplesOfVoters(t *testing.T) {
	for voter := 1; voter < 3; voter++ {
		s, e := vote.Wrongs(sample(), voter)
		wantOne(t, voter, s, e, api.Span{Lo: 1, Hi: 1})
	}
	l, e := vote.Tally(sample(), 0)
	wantList(t, "tally of 0", l, e, 2, 0)
	l, e = vote.Tally(sample(), 2)
	wantList(t, "tally of 2", l, e, 1, 1)
}

func TestExamplesOfAsking(t *testing.T) {
	l, e := vote.Ask(sample())
	wantList(t, "ask", l, e)
	wantErrors(t, input{p: sample()}, api.ErrNone, "Next")
}

func TestExamplesOfDecisions(t *testing.T) {
	x, e := vote.Decide(sample())
	wantList(t, "decisions", x.Decisions, e, only(1, place(1, 0, 2), verb), only(2, place(0, 0, 1), noun), only(3, place(1, 0, 0), noun))
	wantList(t, "rules", x.Rules, e)
}

func TestExamplesWithoutTheVoter(t *testing.T) {
	p := without(sample(), 0)
	n, e := vote.Count(p)
	wantOne(t, "count", n, e, 3)
	l, e := vote.Open(p, 1)
	wantList(t, "open 1", l, e, 0, 1)
	l, e = vote.Settled(p)
	wantList(t, "settled", l, e, 0, -1, -1)
	l, e = vote.Ask(p)
	wantList(t, "ask", l, e, 1, 2)
	n, e = vote.Next(p)
	wantOne(t, "next", n, e, 1)
	words, e := vote.Moot(p)
	wantList(t, "moot", words, e, "sea")
}
