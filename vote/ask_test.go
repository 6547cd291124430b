package vote_test

import (
	"testing"

	"postil/api"
	"postil/vote"
)

// wantAsked checks what has to be asked of a poll of which there is a truth, and what next.
func wantAsked(t *testing.T, p api.Poll) {
	t.Helper()
	l, e := vote.Ask(p)
	wantList(t, p, l, e, askOf(p)...)
	next := nextOf(p)
	if next < 0 {
		wantErrors(t, input{p: p}, api.ErrNone, "Next")
		return
	}
	n, e := vote.Next(p)
	wantOne(t, p, n, e, next)
}

// P7.4: polls that look like chance.
func TestAsked(t *testing.T) {
	d := dice(7)
	for range 300 {
		wantAsked(t, d.truePoll(4, 4))
	}
	for range 40 {
		wantAsked(t, d.truePoll(6, 6))
	}
}

// P7.4: of several shortest lists the first one, and of several questions that leave as few truths the first one.
func TestFirstOfSeveral(t *testing.T) {
	for _, x := range []struct {
		p    api.Poll
		ask  []int
		next int
	}{
		// No votes: all has to be asked, and that with three heads leaves the fewest truths.
		{asking([]int{2, 2}), []int{0, 1}, 0},
		{asking([]int{2, 3, 3}), []int{0, 1, 2}, 1},
		// By the votes of two, who are wrong once, either question tells the other one.
		{asking([]int{2, 2}, voter(1, 1, 0, 0), voter(2, 1, 1, 1)), []int{0}, 0},
		{asking([]int{2, 2, 2}, voter(1, 1, -1, 0, 0), voter(2, 1, -1, 1, 1)), []int{0, 1}, 0},
		{asking([]int{2, 2, 2}, voter(1, 1, -1, 0, 0), voter(2, 1, -1, 1, 1), voter(3, 0, 1, -1, -1)), []int{1}, 1},
		// A question with more heads tells what one with fewer, ahead of it, does not: the truths are 0 0 2, 0 1 1 and 1 1 0.
		{asking([]int{2, 2, 3}, voter(1, 2, 1, 0, 1), voter(2, 1, -1, 1, 2), voter(3, 1, 0, -1, 0)), []int{2}, 2},
	} {
		l, e := vote.Ask(x.p)
		wantList(t, x.p, l, e, x.ask...)
		n, e := vote.Next(x.p)
		wantOne(t, x.p, n, e, x.next)
	}
}

// answered is a poll with an answer to a question: a voter who is never wrong.
func answered(p api.Poll, id, question, head int) api.Poll {
	v := voter(id, 0)
	for q := range p.Questions {
		v.Votes = append(v.Votes, -1)
		if q == question {
			v.Votes[q] = head
		}
	}
	return with(p, v)
}

// P7.9: with the answers to what is asked all is settled, and with fewer questions some answers leave two truths.
func TestAnswersSettleAll(t *testing.T) {
	d := dice(8)
	asked := 0
	for range 400 {
		p := d.truePoll(4, 2)
		l, e := vote.Ask(p)
		asked += len(l)
		for _, truth := range truths(p) {
			q := p
			for n, question := range l {
				q = answered(q, 100+n, question, truth[question])
			}
			settled, e := vote.Settled(q)
			wantList(t, q, settled, e, truth...)
			count, e := vote.Count(q)
			wantOne(t, q, count, e, 1)
		}
		for fewer := range len(l) {
			for _, questions := range choices(fewer, 0, len(p.Questions)) {
				if tellApart(truths(p), questions) {
					t.Errorf("%+v: %v, %v, not %v", p, l, e, questions)
				}
			}
		}
	}
	if asked < 400 {
		t.Error(asked)
	}
}

// P7.10: the next question leaves no more truths, in the worst case, than any other one, and fewer than there were.
func TestNextQuestion(t *testing.T) {
	d := dice(9)
	for range 400 {
		p := d.truePoll(4, 3)
		next, e := vote.Next(p)
		if e == api.ErrNone {
			continue
		}
		before, _ := vote.Count(p)
		most := 0
		for h := range p.Questions[next].Heads {
			after, e := vote.Count(answered(p, 100, next, h))
			if after >= before || e != api.OK {
				t.Errorf("%+v: the answer %d to %d leaves %d of %d truths, %v", p, h, next, after, before, e)
			}
			most = max(most, after)
		}
		for q := range p.Questions {
			if worst(p, q) < most {
				t.Errorf("%+v: %d leaves %d truths, not %d", p, next, most, worst(p, q))
			}
		}
	}
}
