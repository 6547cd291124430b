package vote

import (
	"cmp"
	"iter"
	"slices"

	"postil/api"
	"postil/stem"
)

// poll is a poll at work: it has all truths, in order.
type poll struct {
	api.Poll
	truths [][]int
}

// begin returns a poll at work: stem.Check's error of its Text and its Lexicon, and ErrPoll unless it is valid.
func begin(p api.Poll) (poll, api.Errno) {
	if e := stem.Check(p.Text, p.Lexicon); e != api.OK {
		return poll{}, e
	}
	if !areQuestions(p.Text, p.Questions) || !areVoters(p.Voters, p.Questions) {
		return poll{}, api.ErrPoll
	}
	work := poll{Poll: p}
	work.truths = slices.Collect(work.possible())
	return work, api.OK
}

// What a voter is asked about a head of a question.
const (
	isFor = iota
	isForAnother
)

// asked is the answer to what a voter is asked, by the vote.
type asked struct {
	answer func(vote, head int) bool
}

// table is the table of what voters are asked.
func table() [2]asked {
	return [...]asked{
		isFor:        {answer: func(vote, head int) bool { return vote == head }},
		isForAnother: {answer: func(vote, head int) bool { return vote >= 0 && vote != head }},
	}
}

// says returns what a voter answers who is asked about a head of a question.
func (p poll) says(voter, what, question, head int) bool {
	return table()[what].answer(p.Voters[voter].Votes[question], head)
}

// wrong returns in how many questions a voter is wrong if these are the heads.
func (p poll) wrong(voter int, heads []int) int {
	return many(len(heads), func(question int) bool {
		return p.says(voter, isForAnother, question, heads[question])
	})
}

// possible yields all truths, in order.
func (p poll) possible() iter.Seq[[]int] {
	return func(yield func([]int) bool) {
	lists:
		for n := range p.lists(0) {
			heads := p.list(n)
			for voter := range p.Voters {
				if p.wrong(voter, heads) > p.Voters[voter].Wrong {
					continue lists
				}
			}
			if !yield(heads) {
				return
			}
		}
	}
}

// lists returns how many lists there are that have a head of each question from one on.
func (p poll) lists(from int) int {
	n := 1
	for _, q := range p.Questions[from:] {
		n *= len(q.Heads)
	}
	return n
}

// list returns the list with a number, by their order, of those that have a head of each question.
func (p poll) list(n int) []int {
	heads := make([]int, len(p.Questions))
	for question := range len(heads) {
		heads[question] = n / p.lists(question+1) % len(p.Questions[question].Heads)
	}
	return heads
}

// left returns how many truths are left with an answer to a question.
func (p poll) left(question, head int) int {
	return many(len(p.truths), func(n int) bool { return p.truths[n][question] == head })
}

// open returns all heads that a question has in some truth, in increasing order.
func (p poll) open(question int) []int {
	return told(len(p.Questions[question].Heads), func(head int) bool { return p.left(question, head) > 0 })
}

// settled returns the head that a question has in all truths, or -1: there is a truth.
func (p poll) settled(question int) int {
	if l := p.open(question); len(l) == 1 {
		return l[0]
	}
	return -1
}

// unsettled returns all questions that are not settled, in increasing order.
func (p poll) unsettled() []int {
	return told(len(p.Questions), func(question int) bool { return p.settled(question) < 0 })
}

// wrongs returns in how many questions a voter is wrong, at least and at most, in a truth: there is one.
func (p poll) wrongs(voter int) api.Span {
	s := api.Span{Lo: len(p.Questions), Hi: 0}
	for _, heads := range p.truths {
		n := p.wrong(voter, heads)
		s = api.Span{Lo: min(s.Lo, n), Hi: max(s.Hi, n)}
	}
	return s
}

// tally returns how many voters voted for each head of a question.
func (p poll) tally(question int) []int {
	l := make([]int, len(p.Questions[question].Heads))
	for head := range len(l) {
		l[head] = many(len(p.Voters), func(voter int) bool { return p.says(voter, isFor, question, head) })
	}
	return l
}

// ask returns the questions that are to be asked.
func (p poll) ask() []int {
	return first(p.enough(), func(a, b []int) bool {
		return cmp.Or(cmp.Compare(len(a), len(b)), slices.Compare(a, b)) < 0
	})
}

// enough yields all lists of questions by whose answers all are settled.
func (p poll) enough() iter.Seq[[]int] {
	return func(yield func([]int) bool) {
		for set := range 1 << len(p.Questions) {
			l := told(len(p.Questions), func(question int) bool { return set>>question&1 == 1 })
			if p.tellApart(l) && !yield(l) {
				return
			}
		}
	}
}

// tellApart tells whether no two truths have the same heads in all of some questions.
func (p poll) tellApart(questions []int) bool {
	known := map[[api.MaxQuestions]int]bool{}
	for _, heads := range p.truths {
		var answers [api.MaxQuestions]int
		for _, question := range questions {
			answers[question] = heads[question]
		}
		if known[answers] {
			return false
		}
		known[answers] = true
	}
	return true
}

// next returns the question that is to be asked next: there is one that is not settled.
func (p poll) next() int {
	return first(slices.Values(p.unsettled()), func(a, b int) bool { return p.worst(a) < p.worst(b) })
}

// worst returns how many truths are left by the answer to a question, in the worst case.
func (p poll) worst(question int) int {
	n := 0
	for _, head := range p.open(question) {
		n = max(n, p.left(question, head))
	}
	return n
}

// told returns all numbers below a limit of which something is so, in increasing order.
func told(limit int, isSo func(n int) bool) []int {
	var l []int
	for n := range limit {
		if isSo(n) {
			l = append(l, n)
		}
	}
	return l
}

// many returns of how many numbers below a limit something is so.
func many(limit int, isSo func(n int) bool) int {
	times := 0
	for n := range limit {
		if isSo(n) {
			times++
		}
	}
	return times
}

// first returns the one of some things that goes ahead of all others, and of several such ones the first one.
func first[T any](l iter.Seq[T], ahead func(a, b T) bool) T {
	var best T
	found := false
	for x := range l {
		if !found || ahead(x, best) {
			best, found = x, true
		}
	}
	return best
}
