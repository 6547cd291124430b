package vote_test

import (
	"slices"
	"testing"

	"postil/api"
	"postil/stem"
	"postil/vote"
)

// badQuestions is lists of questions about the text of the examples that are not valid, each for one reason.
func badQuestions() [][]api.Question {
	first, second, third := place(0, 0, 0), place(0, 0, 1), place(0, 1, 0)
	good := question(second, noun, verb)
	l := [][]api.Question{
		{question(second)},
		{question(second, noun)},
		{question(second, age, old, noun, verb)},
		{question(second, slices.Repeat([]api.Head{noun}, 1000)...)},
		{question(second, noun, noun)},
		{question(second, verb, noun)},
		{question(second, head("sea", 1), head("sea", 0))},
		{question(second, age, age, verb)},
		{question(second, age, verb, verb)},
		{question(second, age, verb, noun)},
		{question(second, verb, age, noun)},
		{question(second, age, noun, age)},
		{good, good},
		{good, question(second, age, old)},
		{good, question(first, noun, verb)},
		{question(third, noun, verb), good},
		{question(first, noun, verb), question(third, noun, verb), good},
		{question(first, noun, verb), good, question(place(0, 0, 3), noun)},
		slices.Repeat([]api.Question{good}, 1000),
	}
	var seven []api.Question
	for _, at := range places(sample().Text)[:7] {
		seven = append(seven, question(at, noun, verb))
	}
	l = append(l, seven)
	for _, at := range []api.Place{place(2, 0, 0), place(0, 2, 0), place(1, 1, 0), place(0, 0, 4), place(0, 1, 3), place(1, 0, 3)} {
		l = append(l, []api.Question{question(at, noun, verb)})
	}
	for _, n := range append(far, -1) {
		for _, at := range []api.Place{place(n, 0, 0), place(0, n, 0), place(0, 0, n)} {
			l = append(l, []api.Question{question(at, noun, verb)}, []api.Question{question(first, noun, verb), question(at, noun, verb)})
		}
	}
	for _, s := range noWords {
		l = append(l, []api.Question{question(first, head(s, 0), head("zz", 0))}, []api.Question{question(first, head("a", 0), head(s, 0))}, []api.Question{good, question(third, age, head(s, 0), head("zz", 0))})
	}
	for _, mark := range []uint8{4, 5, 128, 255} {
		l = append(l, []api.Question{question(first, head("a", 0), head("a", mark))}, []api.Question{question(first, head("a", mark), head("b", 0))})
	}
	return l
}

// badVoters is lists of voters of the poll of the examples that are not valid, each for one reason.
func badVoters() [][]api.Voter {
	good := voter(0, 1, 0, 0, 0)
	l := [][]api.Voter{
		{voter(1, 1)},
		{voter(1, 1, 0, 0)},
		{voter(1, 1, 0, 0, 0, 0)},
		{voter(1, 1, slices.Repeat([]int{-1}, 1000)...)},
		{voter(1, 1, 0, 0, 2)},
		{voter(1, 1, 2, 0, 0)},
		{voter(1, 7, 0, 0, 0)},
		{good, good},
		{good, voter(0, 6, 1, 1, 1)},
		{good, voter(1, 1, 0, 0, 0), voter(0, 2, 0, 0, 0)},
		{voter(3, 1, 0, 0, 0), voter(9, 1, 0, 0, 0), voter(9, 1, 0, 0, 0)},
		slices.Repeat([]api.Voter{good}, 1000),
	}
	var seven []api.Voter
	for id := range 7 {
		seven = append(seven, voter(id, 1, 0, 0, 0))
	}
	l = append(l, seven)
	for _, n := range far {
		for i := range 3 {
			votes := []int{0, 0, 0}
			votes[i] = n
			l = append(l, []api.Voter{good, voter(1, 1, votes...)})
		}
		l = append(l, []api.Voter{voter(n, 1, 0, 0, 0)}, []api.Voter{voter(1, n, 0, 0, 0)}, []api.Voter{voter(1, 6, 0, 0, 0), voter(2, n, 0, 0, 0)})
	}
	return append(l, []api.Voter{voter(-1, 1, 0, 0, 0)}, []api.Voter{voter(1, -1, 0, 0, 0)})
}

// P7.1: polls that are valid, at the ends of what is allowed.
func TestValidPolls(t *testing.T) {
	six := asking([]int{2, 3, 2, 3, 2, 3})
	for id := range 6 {
		six.Voters = append(six.Voters, voter(9999-5*id%7, id+1, -1, 2, 1, 0, -1, 2))
	}
	three := sample()
	three.Questions = []api.Question{question(place(0, 0, 0), head("a", 0), head("a", 3), head("aa", 0)), question(place(1, 0, 2), head(long, 2), head("z", 1))}
	three.Voters = []api.Voter{voter(9999, 0, 2, 1), voter(0, 6, -1, -1), voter(5000, 3, 0, 0)}
	none := sample()
	none.Questions, none.Voters = nil, []api.Voter{voter(4, 0), voter(3, 6)}
	l := []api.Poll{sample(), six, three, none, {Text: book("a")}, asking([]int{3, 3, 3, 3, 3, 3}), with(asking([]int{2}), voter(1, 6, 1))}
	// The order of places goes by chapters first, then by lines.
	for _, at := range [][2]api.Place{{place(0, 0, 3), place(0, 1, 0)}, {place(0, 1, 2), place(1, 0, 0)}, {place(0, 0, 3), place(1, 0, 2)}} {
		p := sample()
		p.Questions = []api.Question{question(at[0], noun, verb), question(at[1], noun, verb)}
		p.Voters = nil
		l = append(l, p)
	}
	for _, p := range l {
		wantErrors(t, input{p: p}, api.OK, "Check", "Count")
	}
}

// P7.1: polls that are not valid lead to ErrPoll ahead of all other errors.
func TestBadPolls(t *testing.T) {
	check := func(p api.Poll) {
		t.Helper()
		wantErrors(t, input{p: p}, api.ErrPoll, calls...)
		wantErrors(t, input{p, -1, 99}, api.ErrPoll, calls...)
	}
	for _, l := range badQuestions() {
		p := sample()
		p.Questions, p.Voters = l, nil
		check(p)
		// Votes for each question, so that they are no other reason.
		p.Voters = []api.Voter{voter(1, 0, slices.Repeat([]int{-1}, len(l))...)}
		check(p)
	}
	for _, l := range badVoters() {
		p := sample()
		p.Voters = l
		check(p)
	}
	p := sample()
	p.Questions = nil
	check(p)
}

// P7.1: stem.Check's error of the Text and the Lexicon goes ahead of all others.
func TestErrorsOfTheLexicon(t *testing.T) {
	for _, text := range []api.Text{{}, book("the Sea"), book("a b c d e f g h i j k"), book("abcdefghijklm"), {Chapters: []api.Chapter{{Id: 1, Lines: [][]string{{}}}}}} {
		for _, p := range []api.Poll{sample(), {Lexicon: api.Lexicon{Decisions: []api.Decision{{}}}}, with(sample(), voter(0, -1)), falsePoll()} {
			p.Text = text
			wantErrors(t, input{p, -1, -1}, api.ErrText, calls...)
		}
	}
	for _, x := range []api.Lexicon{{Rules: []api.Rule{{}}}, {Decisions: []api.Decision{only(0, place(0, 0, 1), noun)}}, {Decisions: []api.Decision{only(1, place(0, 0, 4), noun)}}, {Decisions: []api.Decision{only(1, place(0, 0, 1), noun), void(1, 0)}}} {
		for _, p := range []api.Poll{sample(), with(sample(), voter(0, -1)), falsePoll()} {
			p.Lexicon = x
			if e := stem.Check(p.Text, x); e != api.ErrLexicon {
				t.Error(x, e)
			}
			wantErrors(t, input{p, -1, -1}, api.ErrLexicon, calls...)
		}
	}
}

// P7.2 and P7.3: ErrArg unless there is such a question, and such a voter, also if there is no truth.
func TestIndices(t *testing.T) {
	for _, p := range []api.Poll{sample(), falsePoll(), {Text: book("a")}} {
		for _, n := range append(far, -1, len(p.Questions), len(p.Voters)) {
			if n < 0 || n >= len(p.Questions) {
				wantErrors(t, input{p: p, question: n}, api.ErrArg, "Open", "Tally")
			}
			if n < 0 || n >= len(p.Voters) {
				wantErrors(t, input{p: p, voter: n}, api.ErrArg, "Wrongs")
			}
		}
	}
	for n := range 3 {
		wantErrors(t, input{sample(), n, n}, api.OK, "Open", "Wrongs", "Tally")
	}
	// A poll with more voters than questions, and one with less.
	p := asking([]int{2}, voter(1, 1, 0), voter(2, 1, 1))
	wantErrors(t, input{p, 0, 1}, api.OK, "Open", "Wrongs", "Tally")
	wantErrors(t, input{p, 1, 2}, api.ErrArg, "Open", "Wrongs", "Tally")
	p = asking([]int{2, 2, 2}, voter(1, 1, 0, 0, 0))
	wantErrors(t, input{p, 2, 0}, api.OK, "Open", "Wrongs", "Tally")
	wantErrors(t, input{p, 3, 1}, api.ErrArg, "Open", "Wrongs", "Tally")
}

// P7.1 to P7.6: without a truth there is none to be counted, and ErrBad for what is told of truths; how voters voted is told as well.
func TestNoTruth(t *testing.T) {
	p := falsePoll()
	for n := range 3 {
		wantErrors(t, input{p, n, n}, api.ErrBad, ofTruth...)
	}
	n, e := vote.Count(p)
	wantOne(t, "count", n, e, 0)
	l, e := vote.Tally(p, 2)
	wantList(t, "tally", l, e, 2, 2)
	// ErrBad goes ahead of stem.Add's errors.
	p.Lexicon = fullLexicon(20, 999)
	wantErrors(t, input{p: p}, api.ErrBad, "Decide")
}

// P7.4: ErrNone if all questions are settled, or there is none.
func TestNothingToAsk(t *testing.T) {
	for _, p := range []api.Poll{sample(), {Text: book("a")}, asking(nil, voter(3, 0)), asking([]int{2, 3}, voter(3, 0, 1, 2))} {
		wantErrors(t, input{p: p}, api.ErrNone, "Next")
		l, e := vote.Ask(p)
		wantList(t, p, l, e)
	}
	wantErrors(t, input{p: without(sample(), 0)}, api.OK, "Next")
}
