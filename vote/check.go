package vote

import (
	"cmp"
	"strings"

	"postil/api"
	"postil/leaf"
	"postil/stem"
)

// within tells whether all numbers are in a span.
func within(s api.Span, numbers ...int) bool {
	for _, n := range numbers {
		if n < s.Lo || n > s.Hi {
			return false
		}
	}
	return true
}

// isIndex tells whether a list of this length has the index.
func isIndex(i, length int) bool { return within(api.Span{Lo: 0, Hi: length - 1}, i) }

// areQuestions tells whether a poll of a text may have these questions.
func areQuestions(t api.Text, l []api.Question) bool {
	if len(l) > api.MaxQuestions {
		return false
	}
	last := -1
	for _, q := range l {
		before, e := leaf.Number(t, q.At)
		if e != api.OK || before <= last || !areHeads(t, q) {
			return false
		}
		last = before
	}
	return true
}

// areHeads tells whether a question at a place of a text may have its heads.
func areHeads(t api.Text, q api.Question) bool {
	if !within(api.Span{Lo: 2, Hi: api.MaxChoices}, len(q.Heads)) {
		return false
	}
	// Layer 4 knows what a head is: it is asked whether the place may be decided to have each of them.
	var x api.Lexicon
	for n, h := range q.Heads {
		if n > 0 && compareHeads(q.Heads[n-1], h) >= 0 {
			return false
		}
		x.Decisions = append(x.Decisions, decision(n+1, q.At, h))
	}
	return stem.Check(t, x) == api.OK
}

func compareHeads(a, b api.Head) int {
	return cmp.Or(strings.Compare(a.Stem, b.Stem), cmp.Compare(a.Mark, b.Mark))
}

// decision returns the decision with a Number that a place has a head.
func decision(number int, at api.Place, to api.Head) api.Decision {
	return api.Decision{Number: number, Kind: api.DecidePlace, At: at, To: to}
}

// areVoters tells whether a poll with these questions may have these voters.
func areVoters(l []api.Voter, questions []api.Question) bool {
	if len(l) > api.MaxVoters {
		return false
	}
	known := map[int]bool{}
	for _, v := range l {
		if known[v.Id] || !isVoter(v, questions) {
			return false
		}
		known[v.Id] = true
	}
	return true
}

func isVoter(v api.Voter, questions []api.Question) bool {
	if !within(api.Span{Lo: 0, Hi: api.MaxId}, v.Id) || !within(api.Span{Lo: 0, Hi: api.MaxQuestions}, v.Wrong) || len(v.Votes) != len(questions) {
		return false
	}
	for n, q := range questions {
		if !within(api.Span{Lo: -1, Hi: len(q.Heads) - 1}, v.Votes[n]) {
			return false
		}
	}
	return true
}
