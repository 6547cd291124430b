package vote_test

import (
	"slices"
	"testing"

	"postil/api"
	"postil/vote"
)

// wantTruths checks all that is told of truths, and of votes, against all lists of heads.
func wantTruths(t *testing.T, p api.Poll) {
	t.Helper()
	all := truths(p)
	n, e := vote.Count(p)
	wantOne(t, p, n, e, len(all))
	for q := range p.Questions {
		wantTally(t, p, q)
	}
	if len(all) == 0 {
		wantErrors(t, input{p: p}, api.ErrBad, "Truth", "Settled", "Ask", "Next", "Decide", "Moot")
		return
	}
	l, e := vote.Truth(p)
	wantList(t, p, l, e, all[0]...)
	for q := range p.Questions {
		l, e = vote.Open(p, q)
		wantList(t, p, l, e, openOf(p, q)...)
	}
	l, e = vote.Settled(p)
	wantList(t, p, l, e, settledOf(p)...)
	for n := range p.Voters {
		wantWrongs(t, p, n)
	}
}

func wantTally(t *testing.T, p api.Poll, q int) {
	t.Helper()
	want := make([]int, len(p.Questions[q].Heads))
	for _, v := range p.Voters {
		if v.Votes[q] != -1 {
			want[v.Votes[q]]++
		}
	}
	l, e := vote.Tally(p, q)
	wantList(t, p, l, e, want...)
}

func wantWrongs(t *testing.T, p api.Poll, n int) {
	t.Helper()
	var wrongs []int
	for _, heads := range truths(p) {
		wrongs = append(wrongs, wrongOf(p.Voters[n], heads))
	}
	s, e := vote.Wrongs(p, n)
	wantOne(t, p, s, e, api.Span{Lo: slices.Min(wrongs), Hi: slices.Max(wrongs)})
}

// smallPolls calls f with all polls of up to two questions, with some heads, and up to two voters.
func smallPolls(f func(p api.Poll)) {
	for _, heads := range [][]int{nil, {2}, {3}, {2, 2}, {2, 3}, {3, 2}} {
		p := asking(heads)
		all := [][]int{nil}
		for _, many := range heads {
			var longer [][]int
			for _, votes := range all {
				for n := range many + 1 {
					longer = append(longer, append(slices.Clone(votes), n-1))
				}
			}
			all = longer
		}
		f(p)
		for _, first := range all {
			for wrong := range len(heads) + 1 {
				one := with(p, voter(5, wrong, first...))
				f(one)
				for _, second := range all {
					for more := range len(heads) + 1 {
						f(with(one, voter(2, more, second...)))
					}
				}
			}
		}
	}
}

// P7.1 to P7.4, P7.7: all small polls.
func TestSmallPolls(t *testing.T) {
	smallPolls(func(p api.Poll) {
		wantTruths(t, p)
		if len(truths(p)) > 0 {
			wantAsked(t, p)
		}
	})
}

// P7.1 to P7.3, P7.7: polls that look like chance.
func TestTruthsOfPolls(t *testing.T) {
	d := dice(1)
	none := 0
	for range 1000 {
		p := d.poll(6, 6)
		wantTruths(t, p)
		if len(truths(p)) == 0 {
			none++
		}
	}
	if none < 100 || none > 900 {
		t.Error(none)
	}
}

// P7.1: truths are in order by the first question in which they differ.
func TestFirstTruth(t *testing.T) {
	for _, x := range []struct {
		p    api.Poll
		want []int
	}{
		{asking(nil), nil},
		{asking([]int{2, 3}), []int{0, 0}},
		{asking([]int{3, 3}, voter(1, 1, 1, 2)), []int{0, 2}},
		{asking([]int{3, 3, 2}, voter(1, 1, 2, 1, 1)), []int{0, 1, 1}},
		{asking([]int{3, 3, 2}, voter(1, 0, 2, -1, 1)), []int{2, 0, 1}},
		{asking([]int{3, 3, 2}, voter(1, 2, 2, 1, 1)), []int{0, 0, 1}},
		{asking([]int{2, 2, 2}, voter(1, 1, 1, 1, -1), voter(2, 0, -1, 0, 1)), []int{1, 0, 1}},
	} {
		l, e := vote.Truth(x.p)
		wantList(t, x.p, l, e, x.want...)
	}
}

// P7.1 and P7.7: a voter may be wrong in as many questions as told, and not in one more; no vote is no wrong one.
func TestWrongVotes(t *testing.T) {
	for wrong, want := range []int{1, 1 + 6, 1 + 6 + 12, 27, 27, 27, 27} {
		n, e := vote.Count(asking([]int{3, 3, 3}, voter(1, wrong, 0, 1, 2)))
		wantOne(t, wrong, n, e, want)
	}
	for wrong, want := range []int{3, 9, 9} {
		n, e := vote.Count(asking([]int{3, 3}, voter(1, wrong, -1, 2)))
		wantOne(t, wrong, n, e, want)
	}
	n, e := vote.Count(asking([]int{3, 3, 3, 3, 3, 3}))
	wantOne(t, "most", n, e, 729)
}

// P7.7: what is the case, if no voter is wrong more often than told, is a truth: what is settled is so, and what it has is open.
func TestWhateverIsTrue(t *testing.T) {
	d := dice(2)
	for range 400 {
		p := d.poll(4, 3)
		for i, v := range p.Voters {
			p.Voters[i].Wrong = min(v.Wrong, 2)
		}
		count := 0
		for _, heads := range lists(p) {
			if slices.ContainsFunc(p.Voters, func(v api.Voter) bool { return wrongOf(v, heads) > v.Wrong }) {
				continue
			}
			count++
			settled, e := vote.Settled(p)
			if e != api.OK {
				t.Fatal(p, e)
			}
			for q, h := range heads {
				open, e := vote.Open(p, q)
				if !slices.Contains(open, h) || settled[q] >= 0 && settled[q] != h || e != api.OK {
					t.Errorf("%+v: %v is none of %v, %v", p, heads, open, settled)
				}
			}
		}
		n, e := vote.Count(p)
		wantOne(t, p, n, e, count)
	}
}

// voted is a poll with a vote more, of one who has none for some question, or with a voter more.
func (d *dice) voted(p api.Poll) api.Poll {
	more := with(p)
	for i, v := range more.Voters {
		for q, h := range v.Votes {
			if h < 0 && d.roll(3) == 0 {
				more.Voters[i].Votes = slices.Clone(v.Votes)
				more.Voters[i].Votes[q] = d.roll(len(p.Questions[q].Heads))
				return more
			}
		}
	}
	if len(p.Voters) < 6 {
		return with(p, d.voter(p, 100))
	}
	return more
}

// P7.8 and N7: what is settled no further vote can change, no vote more opens anything, and with a voter more there are no more truths.
func TestFurtherVotes(t *testing.T) {
	d := dice(3)
	fewer := 0
	for range 1500 {
		p := d.truePoll(4, 4)
		before, _ := vote.Count(p)
		settled, _ := vote.Settled(p)
		more := d.voted(p)
		after, e := vote.Count(more)
		if after > before || e != api.OK {
			t.Errorf("%+v: %d truths, then %d, %v", p, before, after, e)
		}
		if after < before {
			fewer++
		}
		if after == 0 {
			continue
		}
		now, e := vote.Settled(more)
		for q, h := range settled {
			open, _ := vote.Open(p, q)
			left, _ := vote.Open(more, q)
			if h >= 0 && now[q] != h || e != api.OK || slices.ContainsFunc(left, func(h int) bool { return !slices.Contains(open, h) }) {
				t.Errorf("%+v: %v, %v, then %v, %v", p, settled, open, now, left)
			}
		}
	}
	if fewer < 200 {
		t.Error(fewer)
	}
}

// P7.11: a voter who is never wrong settles all that the voter voted on.
func TestNeverWrong(t *testing.T) {
	d := dice(4)
	settling := 0
	for range 1000 {
		p := d.poll(5, 3)
		v := d.voter(p, 50)
		v.Wrong = 0
		l, e := vote.Settled(with(p, v))
		if e == api.ErrBad {
			continue
		}
		settling++
		for q, h := range v.Votes {
			if h >= 0 && l[q] != h || e != api.OK {
				t.Errorf("%+v: %v, %v, not %v", p, l, e, v.Votes)
			}
		}
	}
	if settling < 200 {
		t.Error(settling)
	}
}

// P7.11: a voter who may be wrong in all questions changes nothing but how many voted, and the order of voters does not matter.
func TestVotersThatDoNotMatter(t *testing.T) {
	d := dice(5)
	for range 150 {
		p := d.poll(6, 5)
		v := d.voter(p, 50)
		v.Wrong = max(len(p.Questions), 6*d.roll(2))
		more := with(p, v)
		other := with(more)
		slices.Reverse(other.Voters)
		for q := range max(1, len(p.Questions)) {
			x, y, z := input{p, q, 0}.all(), input{more, q, 0}.all(), input{other, q, len(more.Voters) - 1}.all()
			for i, o := range x {
				if o.call != "Wrongs" && o.call != "Tally" && !same(o, y[i]) || !same(y[i], z[i]) {
					t.Errorf("%+v, %+v: %v, then %v, then %v", p, v, o, y[i], z[i])
				}
			}
		}
	}
}

// P7.13: a voter's wrong votes are within what is told in each truth, and both ends come about.
func TestEndsOfWrongs(t *testing.T) {
	d := dice(6)
	apart := 0
	for range 500 {
		p := d.truePoll(5, 4)
		for n, v := range p.Voters {
			s, e := vote.Wrongs(p, n)
			found := map[int]bool{}
			for _, heads := range truths(p) {
				found[wrongOf(v, heads)] = true
			}
			for wrong := range found {
				if wrong < s.Lo || wrong > s.Hi {
					t.Errorf("%+v: voter %d is wrong in %d questions, not %v", p, n, wrong, s)
				}
			}
			if !found[s.Lo] || !found[s.Hi] || s.Hi > v.Wrong || e != api.OK {
				t.Errorf("%+v: voter %d: %v, %v", p, n, s, e)
			}
			if s.Lo > 0 && s.Hi > s.Lo {
				apart++
			}
		}
	}
	if apart < 20 {
		t.Error(apart)
	}
	s, e := vote.Wrongs(asking([]int{3, 3, 3, 3, 3, 3}, voter(1, 6, 0, 1, 2, 2, 1, 0), voter(2, 5, 2, 2, 2, 2, 2, 2), voter(3, 0, 1, -1, -1, -1, -1, -1)), 0)
	wantOne(t, "wrongs", s, e, api.Span{Lo: 1, Hi: 6})
}
