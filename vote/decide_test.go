package vote_test

import (
	"slices"
	"testing"

	"postil/api"
	"postil/leaf"
	"postil/stem"
	"postil/vote"
)

// fullLexicon is a lexicon of so many decisions about no word of the text, with the Numbers up to a last one.
func fullLexicon(many, last int) api.Lexicon {
	var x api.Lexicon
	for n := range many {
		x.Decisions = append(x.Decisions, form(last-many+1+n, "nowhere", noun))
	}
	return x
}

// decideOf is the lexicon with a decision more for each question that is settled and whose place has another head.
func decideOf(t *testing.T, p api.Poll) (api.Lexicon, api.Errno) {
	t.Helper()
	x := p.Lexicon
	for q, h := range settledOf(p) {
		if h < 0 || headOf(t, p, x, p.Questions[q].At) == p.Questions[q].Heads[h] {
			continue
		}
		number := 1
		for _, d := range x.Decisions {
			number = max(number, d.Number+1)
		}
		more, e := stem.Add(p.Text, x, only(number, p.Questions[q].At, p.Questions[q].Heads[h]))
		if e != api.OK {
			return api.Lexicon{}, e
		}
		x = more
	}
	return x, api.OK
}

// wantDecided checks the lexicon with the decisions that follow: the same errors, rules and decisions.
func wantDecided(t *testing.T, p api.Poll) {
	t.Helper()
	want, wantE := decideOf(t, p)
	x, e := vote.Decide(p)
	if e != wantE || !slices.Equal(x.Rules, want.Rules) || !slices.Equal(x.Decisions, want.Decisions) {
		t.Errorf("%+v: %v, %v, not %v, %v", p, x, e, want, wantE)
	}
}

// P7.5: polls that look like chance.
func TestDecisions(t *testing.T) {
	d := dice(10)
	more := 0
	for range 1000 {
		p := d.truePoll(5, 4)
		wantDecided(t, p)
		x, _ := vote.Decide(p)
		more += len(x.Decisions) - len(p.Lexicon.Decisions)
	}
	if more < 500 {
		t.Error(more)
	}
}

// settling is the poll of the examples with all questions settled by one voter: the places have the heads noun or verb, age or old, and noun or verb by the votes.
func settling(x api.Lexicon, votes ...int) api.Poll {
	p := sample()
	p.Lexicon = x
	p.Voters = []api.Voter{voter(1, 0, votes...)}
	return p
}

// P7.5: which decisions there are then, and with which Numbers.
func TestWhichDecisions(t *testing.T) {
	at := []api.Place{place(0, 0, 1), place(0, 0, 3), place(1, 0, 0)}
	rules := []api.Rule{{Cut: "ea", Put: "ee", Least: 1}}
	for _, x := range []struct {
		p    api.Poll
		want []api.Decision
	}{
		// The first Number is 1, and each one after it 1 more; "old" has its head by rules.
		{settling(api.Lexicon{}, 0, 1, 1), []api.Decision{only(1, at[0], noun), only(2, at[2], verb)}},
		{settling(api.Lexicon{}, 0, 0, 1), []api.Decision{only(1, at[0], noun), only(2, at[1], age), only(3, at[2], verb)}},
		{settling(api.Lexicon{}, -1, 1, -1), nil},
		{settling(api.Lexicon{}, -1, 0, -1), []api.Decision{only(1, at[1], age)}},
		{settling(api.Lexicon{}, -1, -1, -1), nil},
		// By a form the places have the head already, up to what is void.
		{settling(api.Lexicon{Decisions: []api.Decision{form(5, "sea", noun)}}, 0, 1, 1), []api.Decision{form(5, "sea", noun), only(6, at[2], verb)}},
		{settling(api.Lexicon{Decisions: []api.Decision{form(5, "sea", noun), void(7, 5)}}, 0, 1, -1), []api.Decision{form(5, "sea", noun), void(7, 5), only(8, at[0], noun)}},
		{settling(api.Lexicon{Decisions: []api.Decision{form(5, "sea", noun)}}, 0, 1, 0), []api.Decision{form(5, "sea", noun)}},
		// The decision of a place with another head does not have to be void.
		{settling(api.Lexicon{Decisions: []api.Decision{only(9, at[0], verb)}}, 0, -1, -1), []api.Decision{only(9, at[0], verb), only(10, at[0], noun)}},
		{settling(api.Lexicon{Decisions: []api.Decision{only(9, at[0], head("sea", api.MarkVerb))}}, 0, -1, -1), []api.Decision{only(9, at[0], head("sea", api.MarkVerb)), only(10, at[0], noun)}},
		// The greatest Number is not always the last one; decisions are in order by their Numbers then.
		{settling(api.Lexicon{Decisions: []api.Decision{form(30, "the", old), form(4, "and", old), form(20, "is", old)}}, 0, 1, -1), []api.Decision{form(4, "and", old), form(20, "is", old), form(30, "the", old), only(31, at[0], noun)}},
		{settling(fullLexicon(1, 998), 0, 1, -1), append(fullLexicon(1, 998).Decisions, only(999, at[0], noun))},
	} {
		for _, x.p.Lexicon.Rules = range [][]api.Rule{nil, rules[:0], {{Cut: "nd", Put: "", Least: 1}}} {
			l, e := vote.Decide(x.p)
			wantList(t, x.p, l.Decisions, e, x.want...)
			wantList(t, x.p, l.Rules, e, x.p.Lexicon.Rules...)
		}
	}
	// By a rule "sea" is under "see", but with no mark.
	l, e := vote.Decide(settling(api.Lexicon{Rules: rules}, 1, -1, -1))
	wantList(t, "a mark", l.Decisions, e, only(1, at[0], verb))
	wantList(t, "a mark", l.Rules, e, rules...)
}

// P7.5: if no decision follows, the lexicon is as it was.
func TestNoDecisions(t *testing.T) {
	decisions := []api.Decision{form(30, "the", old), form(4, "and", old), form(20, "is", old)}
	for _, p := range []api.Poll{settling(api.Lexicon{Decisions: decisions}, -1, 1, -1), {Text: sample().Text, Lexicon: api.Lexicon{Decisions: decisions}}} {
		x, e := vote.Decide(p)
		wantList(t, p, x.Decisions, e, decisions...)
	}
}

// P7.5: ErrFull, then ErrDecision, as long as a decision has to be added.
func TestErrorsOfDecide(t *testing.T) {
	for _, x := range []struct {
		many, last int
		votes      []int
		want       api.Errno
	}{
		{20, 20, []int{-1, -1, -1}, api.OK},
		{20, 999, []int{-1, 1, -1}, api.OK},
		{20, 20, []int{0, 1, -1}, api.ErrFull},
		{20, 999, []int{0, 1, -1}, api.ErrFull},
		{20, 20, []int{-1, -1, 1}, api.ErrFull},
		{19, 19, []int{0, 1, -1}, api.OK},
		{19, 19, []int{0, 0, -1}, api.ErrFull},
		{18, 18, []int{0, 0, -1}, api.OK},
		{18, 18, []int{0, 0, 1}, api.ErrFull},
		{17, 17, []int{0, 0, 1}, api.OK},
		{1, 999, []int{0, 1, -1}, api.ErrDecision},
		{19, 999, []int{0, 1, -1}, api.ErrDecision},
		{19, 998, []int{0, 1, -1}, api.OK},
		{19, 998, []int{0, 0, -1}, api.ErrFull},
		{18, 998, []int{0, 0, -1}, api.ErrDecision},
		{18, 998, []int{0, 1, -1}, api.OK},
		{1, 997, []int{0, 0, -1}, api.OK},
		{1, 997, []int{0, 0, 1}, api.ErrDecision},
		{1, 999, []int{-1, 1, -1}, api.OK},
	} {
		p := settling(fullLexicon(x.many, x.last), x.votes...)
		wantErrors(t, input{p: p}, x.want, "Decide")
		wantDecided(t, p)
	}
}

// P7.12 and N4: each question that is settled has its head then, and no other place has another one.
func TestDecisionsChangeJustWhatIsSettled(t *testing.T) {
	d := dice(11)
	changed := 0
	for range 500 {
		p := d.truePoll(5, 3)
		x, e := vote.Decide(p)
		if e != api.OK {
			t.Fatal(p, e)
		}
		want := map[api.Place]api.Head{}
		for q, h := range settledOf(p) {
			if h >= 0 {
				want[p.Questions[q].At] = p.Questions[q].Heads[h]
			}
		}
		for _, at := range places(p.Text) {
			before, after := headOf(t, p, p.Lexicon, at), headOf(t, p, x, at)
			h, ok := want[at]
			if ok && after != h || !ok && after != before {
				t.Errorf("%+v: %v is under %v, then %v, not %v", p, at, before, after, h)
			}
			if after != before {
				changed++
			}
		}
		// What follows is decided then: it is so once more, without decisions.
		p.Lexicon = x
		again, e := vote.Decide(p)
		wantList(t, p, again.Decisions, e, x.Decisions...)
	}
	if changed < 150 {
		t.Error(changed)
	}
}

// mootOf is all words that stand in two places with different heads, and at a question that is not settled.
func mootOf(t *testing.T, p api.Poll) []string {
	t.Helper()
	l, e := leaf.Vocabulary(p.Text)
	if e != api.OK {
		t.Fatal(p, e)
	}
	return slices.DeleteFunc(l, func(word string) bool {
		heads, asked := map[api.Head]bool{}, false
		for _, at := range places(p.Text) {
			if wordAt(p.Text, at) == word {
				heads[headOf(t, p, p.Lexicon, at)] = true
			}
		}
		for q, h := range settledOf(p) {
			asked = asked || h < 0 && wordAt(p.Text, p.Questions[q].At) == word
		}
		return len(heads) < 2 || !asked
	})
}

// P7.6 and P7.14: polls that look like chance.
func TestMootWords(t *testing.T) {
	d := dice(12)
	some := map[int]int{}
	for range 1000 {
		p := d.truePoll(5, 3)
		want := mootOf(t, p)
		l, e := vote.Moot(p)
		wantList(t, p, l, e, want...)
		some[len(l)]++
	}
	for n := range 3 {
		if some[n] < 20 {
			t.Error(some)
		}
	}
}

// P7.6 and P7.14: a moot word is a homograph of the lexicon as it is, and stands at a question that is not settled, maybe at others.
func TestWhichWordsAreMoot(t *testing.T) {
	p := sample()
	for _, x := range []struct {
		lexicon api.Lexicon
		votes   []int
		want    []string
	}{
		{p.Lexicon, []int{-1, -1, -1}, []string{"sea"}},
		{p.Lexicon, []int{0, -1, -1}, []string{"sea"}},
		{p.Lexicon, []int{-1, 0, 1}, []string{"sea"}},
		{p.Lexicon, []int{0, -1, 1}, nil},
		{p.Lexicon, []int{0, 0, 1}, nil},
		// No word is a homograph, also if what is settled would make it one.
		{api.Lexicon{}, []int{0, -1, -1}, nil},
		{api.Lexicon{Decisions: []api.Decision{only(1, place(0, 0, 3), age)}}, []int{-1, -1, -1}, []string{"old"}},
		{api.Lexicon{Decisions: []api.Decision{only(1, place(0, 0, 3), age), void(2, 1)}}, []int{-1, -1, -1}, nil},
		{api.Lexicon{Decisions: []api.Decision{only(1, place(0, 0, 3), age), only(2, place(0, 0, 1), noun)}}, []int{-1, -1, -1}, []string{"old", "sea"}},
		{api.Lexicon{Decisions: []api.Decision{only(1, place(0, 0, 3), age), only(2, place(0, 0, 1), noun)}}, []int{0, -1, 1}, []string{"old"}},
		// "the" is a homograph, and at no question.
		{api.Lexicon{Decisions: []api.Decision{only(1, place(0, 0, 0), age)}}, []int{-1, -1, -1}, nil},
	} {
		q := settling(x.lexicon, x.votes...)
		l, e := vote.Moot(q)
		wantList(t, q, l, e, x.want...)
	}
}
