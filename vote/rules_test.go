package vote_test

import (
	"math"
	"reflect"
	"slices"
	"testing"

	"postil/api"
	"postil/vote"
)

// same tells whether two outcomes are the same, in which nil lists and empty ones do not differ.
func same(a, b outcome) bool {
	return a.e == b.e && (reflect.DeepEqual(a.result, b.result) || isZero(a.result) && isZero(b.result))
}

// spare is a list with more memory behind its end, in which a mark stands.
func spare[T any](l []T, mark T) []T {
	return append(slices.Clone(l), mark, mark)[:len(l)]
}

// sparedInput is an input with which all calls but Next are OK, or Next is, whose lists have more memory behind their ends.
func sparedInput() input {
	p := without(sample(), 0)
	p.Lexicon.Rules = []api.Rule{{Cut: "nd", Put: "n", Least: 1}}
	p.Lexicon.Decisions = append(p.Lexicon.Decisions, form(5, "the", age), form(2, "sea", verb))
	for i, c := range p.Text.Chapters {
		for n, line := range c.Lines {
			c.Lines[n] = spare(line, "mark")
		}
		p.Text.Chapters[i].Lines = spare(c.Lines, []string{"mark"})
	}
	for i, q := range p.Questions {
		p.Questions[i].Heads = spare(q.Heads, head("mark", 77))
	}
	for i, v := range p.Voters {
		p.Voters[i].Votes = spare(v.Votes, 77)
	}
	p.Text.Chapters = spare(p.Text.Chapters, api.Chapter{Id: 77})
	p.Lexicon.Rules = spare(p.Lexicon.Rules, api.Rule{Cut: "mark"})
	p.Lexicon.Decisions = spare(p.Lexicon.Decisions, void(77, 77))
	p.Questions = spare(p.Questions, question(place(77, 77, 77), noun))
	p.Voters = spare(p.Voters, voter(77, 77, 77))
	return input{p, 1, 1}
}

// memory is a copy of all that the lists of arguments have, up to what is behind their ends.
func memory(x input) any {
	var all []any
	for _, c := range x.p.Text.Chapters[:cap(x.p.Text.Chapters)] {
		all = append(all, c.Id)
		for _, line := range c.Lines[:cap(c.Lines)] {
			all = append(all, slices.Clone(line[:cap(line)]))
		}
	}
	for _, q := range x.p.Questions[:cap(x.p.Questions)] {
		all = append(all, q.At, slices.Clone(q.Heads[:cap(q.Heads)]))
	}
	for _, v := range x.p.Voters[:cap(x.p.Voters)] {
		all = append(all, v.Id, v.Wrong, slices.Clone(v.Votes[:cap(v.Votes)]))
	}
	return append(all, slices.Clone(x.p.Lexicon.Rules[:cap(x.p.Lexicon.Rules)]), slices.Clone(x.p.Lexicon.Decisions[:cap(x.p.Lexicon.Decisions)]))
}

// R3: no argument is written to, nor the memory behind the end of one; and the same arguments have the same results.
func TestArgumentsAreNotWrittenTo(t *testing.T) {
	x := sparedInput()
	before, first := memory(x), x.all()
	if !reflect.DeepEqual(before, memory(x)) {
		t.Errorf("arguments are %v, not %v any more", memory(x), before)
	}
	for i, o := range x.all() {
		if o.e != api.OK || !reflect.DeepEqual(o, first[i]) {
			t.Errorf("%s: %v, then %v", o.call, first[i], o)
		}
	}
}

// R3: what is written to a result is seen in no argument, and in no other result.
func TestResultsShareNoMemory(t *testing.T) {
	with, without := sparedInput(), sparedInput()
	// Nothing is settled, so that the lexicon is as it was.
	without.p.Voters = without.p.Voters[:0]
	for _, x := range []input{with, without} {
		before, first := memory(x), x.all()
		for _, o := range x.all() {
			switch l := o.result.(type) {
			case []int:
				fill(l, 66)
			case []string:
				fill(l, "spoiled")
			case api.Lexicon:
				if len(l.Rules) == 0 || len(l.Decisions) == 0 {
					t.Error(o)
				}
				fill(l.Rules, api.Rule{Cut: "spoiled"})
				fill(l.Decisions, void(66, 66))
			}
		}
		if !reflect.DeepEqual(before, memory(x)) {
			t.Errorf("arguments are %v, not %v any more", memory(x), before)
		}
		if again := x.all(); !reflect.DeepEqual(first, again) {
			t.Errorf("results are %v, not %v any more", again, first)
		}
	}
}

// fill writes to all memory of a list, up to what is behind its end.
func fill[T any](l []T, mark T) {
	l = l[:cap(l)]
	for i := range l {
		l[i] = mark
	}
}

// R3: nothing is remembered of another poll.
func TestNothingIsRemembered(t *testing.T) {
	d := dice(13)
	x, y := sparedInput(), input{p: d.truePoll(5, 5)}
	first, second := x.all(), y.all()
	if !reflect.DeepEqual(x.all(), first) || !reflect.DeepEqual(y.all(), second) {
		t.Error("results are others now")
	}
}

// R4: nil lists and empty ones are the same.
func TestNilAndEmpty(t *testing.T) {
	none := api.Poll{Text: book("a"), Voters: []api.Voter{voter(1, 1)}}
	empty := api.Poll{
		Text:      book("a"),
		Lexicon:   api.Lexicon{Rules: []api.Rule{}, Decisions: []api.Decision{}},
		Questions: []api.Question{},
		Voters:    []api.Voter{{Id: 1, Wrong: 1, Votes: []int{}}},
	}
	for _, p := range []api.Poll{none, empty} {
		x := input{p: p}
		wantErrors(t, x, api.OK, "Check", "Count", "Truth", "Settled", "Wrongs", "Ask", "Decide", "Moot")
		wantErrors(t, x, api.ErrArg, "Open", "Tally")
		wantErrors(t, x, api.ErrNone, "Next")
		for _, o := range x.all() {
			l, isLexicon := o.result.(api.Lexicon)
			if o.call != "Count" && !isZero(o.result) && !(isLexicon && len(l.Rules)+len(l.Decisions) == 0) {
				t.Errorf("%s: %v", o.call, o.result)
			}
		}
	}
	x, y := input{p: sample()}, input{p: sample()}
	x.p.Voters, y.p.Voters = nil, []api.Voter{}
	for i, o := range x.all() {
		if other := y.all()[i]; !same(o, other) {
			t.Errorf("%v, not %v", other, o)
		}
	}
	for _, heads := range [][]api.Head{nil, {}} {
		p := asking([]int{2})
		p.Questions[0].Heads = heads
		wantErrors(t, input{p: p}, api.ErrPoll, calls...)
	}
	for _, votes := range [][]int{nil, {}} {
		wantErrors(t, input{p: asking([]int{2}, voter(1, 1, votes...))}, api.ErrPoll, calls...)
	}
}

// R5 and R7: no call panics, whatever the numbers and texts are, and with an error there is no result.
func TestAnyValues(t *testing.T) {
	numbers := []int{math.MinInt, math.MinInt + 1, -2, -1, 0, 1, 2, 3, 5, 6, 7, 9999, 10000, math.MaxInt - 1, math.MaxInt}
	d := dice(14)
	number := func() int {
		if d.roll(25) > 0 {
			return d.roll(2)
		}
		return one(&d, numbers...)
	}
	right := map[string]int{}
	for range 2500 {
		x := input{p: d.poll(4, 3), question: number(), voter: number()}
		for i, q := range x.p.Questions {
			if d.roll(12) == 0 {
				x.p.Questions[i].At = place(number(), number(), number())
				q.Heads[d.roll(len(q.Heads))] = head(one(&d, append(noWords, "sea")...), uint8(number()))
			}
		}
		for i, v := range x.p.Voters {
			if d.roll(6) == 0 {
				x.p.Voters[i].Id, x.p.Voters[i].Wrong = number(), number()
			}
			if len(v.Votes) > 0 && d.roll(6) == 0 {
				v.Votes[d.roll(len(v.Votes))] = number()
				x.p.Voters[i].Votes = v.Votes[:len(v.Votes)-d.roll(8)/7]
			}
		}
		wantErrors(t, x, api.OK)
		for _, o := range x.all() {
			if o.e == api.OK {
				right[o.call]++
			}
		}
	}
	for call, n := range right {
		if n < 100 {
			t.Error(call, n)
		}
	}
	if len(right) != len(calls) {
		t.Error(right)
	}
}

// greatest is the poll with the most of all: 600 words, rules, 14 decisions, and questions with the most heads.
func greatest() api.Poll {
	var p api.Poll
	line := slices.Repeat([]string{long}, 10)
	for i := range 6 {
		p.Text.Chapters = append(p.Text.Chapters, api.Chapter{Id: i, Lines: slices.Repeat([][]string{line}, 10)})
	}
	p.Lexicon.Rules = slices.Repeat([]api.Rule{{Cut: "l", Put: "m", Least: 11}}, 12)
	for i := range 14 {
		p.Lexicon.Decisions = append(p.Lexicon.Decisions, only(993-i, place(5, 9, 9), head(long, uint8(i%4))))
	}
	for i := range 6 {
		p.Questions = append(p.Questions, question(place(5, 9, 4+i), head(long, 0), head(long, 1), head(long, 3)))
	}
	return p
}

// R7: the greatest arguments of all calls.
func TestGreatestArguments(t *testing.T) {
	p := greatest()
	var want []api.Voter
	for i := range 6 {
		want = append(want, voter(9999-i, 6, slices.Repeat([]int{2}, 6)...))
	}
	open := with(p, want...)
	wantErrors(t, input{open, 5, 5}, api.OK, calls...)
	n, e := vote.Count(open)
	wantOne(t, "count", n, e, 729)
	l, e := vote.Ask(open)
	wantList(t, "ask", l, e, 0, 1, 2, 3, 4, 5)
	words, e := vote.Moot(open)
	wantList(t, "moot", words, e, long)
	s, e := vote.Wrongs(open, 5)
	wantOne(t, "wrongs", s, e, api.Span{Lo: 0, Hi: 6})
	want[5].Wrong = 0
	settled := with(p, want...)
	x, e := vote.Decide(settled)
	wantOne(t, "decide", len(x.Decisions), e, 20)
	wantOne(t, "the last one", x.Decisions[19], e, only(999, place(5, 9, 9), head(long, 3)))
	l, e = vote.Settled(settled)
	wantList(t, "settled", l, e, 2, 2, 2, 2, 2, 2)
}
