package hand_test

import (
	"slices"
	"testing"

	"postil/api"
	"postil/hand"
)

// backOf is the day on which a part is back, by the word of the document: its helper writes day by day.
func backOf(r api.Round, part int) int {
	helper := r.Shares[part].Helper
	h := r.Helpers[helper]
	day := 0
	for _, s := range r.Shares[:part+1] {
		if s.Helper != helper {
			continue
		}
		for day < s.Sent+h.Post {
			day++
		}
		for left := size(s); left > 0; left -= h.Rate {
			day++
		}
	}
	return day + h.Post
}

// backs is the days on which all parts are back.
func backs(t *testing.T, r api.Round) []int {
	t.Helper()
	var l []int
	for part := range r.Shares {
		day, e := hand.Back(r, part)
		wantOne(t, r.Shares, day, e, backOf(r, part))
		l = append(l, day)
	}
	return l
}

// P5.2: days are rounded up; a part waits for the one before it of the same helper, and for no other one.
func TestBack(t *testing.T) {
	helpers := []api.Helper{{Id: 4, Post: 2, Rate: 3}, {Id: 2, Post: 0, Rate: 1}, {Id: 9, Post: 30, Rate: 20}}
	for _, x := range []struct {
		shares []api.Share
		want   []int
	}{
		{[]api.Share{share(0, 0, 0, 5)}, []int{10}},
		{[]api.Share{share(0, 2, 0, 5)}, []int{10}},
		{[]api.Share{share(0, 3, 0, 5)}, []int{11}},
		{[]api.Share{share(0, 5, 0, 5)}, []int{11}},
		{[]api.Share{share(0, 6, 0, 5)}, []int{12}},
		{[]api.Share{share(0, 19, 1, 0)}, []int{20}},
		{[]api.Share{share(0, 19, 2, 400)}, []int{461}},
		// The second one waits for the first one, which is sent later, or for the post.
		{[]api.Share{share(0, 1, 1, 9), share(2, 3, 1, 3)}, []int{11, 13}},
		{[]api.Share{share(0, 1, 1, 3), share(2, 3, 1, 9)}, []int{5, 11}},
		{[]api.Share{share(0, 1, 1, 3), share(2, 3, 1, 5)}, []int{5, 7}},
		{[]api.Share{share(0, 1, 1, 3), share(2, 3, 1, 4)}, []int{5, 7}},
		// Days are rounded up for each part; and one helper waits for no other one.
		{[]api.Share{share(0, 0, 0, 5), share(1, 1, 0, 5), share(2, 5, 0, 5)}, []int{10, 11, 13}},
		{[]api.Share{share(0, 8, 0, 5), share(9, 9, 1, 0), share(10, 12, 0, 0)}, []int{12, 1, 13}},
		// Shared lines are written by both.
		{[]api.Share{share(0, 2, 1, 0), share(1, 3, 1, 0)}, []int{3, 6}},
	} {
		r := api.Round{Text: numbered(10, 10), Helpers: helpers, Shares: x.shares, Sheets: make([]api.Sheet, len(x.shares))}
		if l := backs(t, r); !slices.Equal(l, x.want) {
			t.Error(x.shares, l, x.want)
		}
	}
}

// P5.2: whether parts are back, and with which faults, is the same for it.
func TestBackWithoutSheets(t *testing.T) {
	d := dice(7)
	for range 500 {
		r, _ := d.round(8)
		l := backs(t, r)
		if other := backs(t, with(r, func(r *api.Round) { r.Sheets = make([]api.Sheet, len(r.Shares)) })); !slices.Equal(l, other) {
			t.Error(l, other)
		}
	}
}

// P5.12: a part sent later, by slower post, or to a slower hand is back no sooner, and no part of another helper is back on another day.
func TestSlower(t *testing.T) {
	d := dice(8)
	later := 0
	for range 1000 {
		r, _ := d.round(8)
		if len(r.Shares) == 0 {
			continue
		}
		part := d.roll(len(r.Shares))
		who := r.Shares[part].Helper
		slower := with(r, func(r *api.Round) {
			switch d.roll(3) {
			case 0:
				r.Shares[part].Sent += d.roll(20)
			case 1:
				r.Helpers[who].Post += d.roll(9)
			case 2:
				r.Helpers[who].Rate = 1 + d.roll(r.Helpers[who].Rate)
			}
		})
		before, after := backs(t, r), backs(t, slower)
		for i, s := range r.Shares {
			if after[i] < before[i] || s.Helper != who && after[i] != before[i] {
				t.Error(r.Shares, before, after)
			}
		}
		if after[part] > before[part] {
			later++
		}
	}
	if later < 100 {
		t.Error(later)
	}
}

// lists is all lists of helpers for so many parts, in their order.
func lists(parts, helpers int) [][]int {
	if parts == 0 {
		return [][]int{nil}
	}
	var l [][]int
	for first := range helpers {
		for _, rest := range lists(parts-1, helpers) {
			l = append(l, slices.Concat([]int{first}, rest))
		}
	}
	return l
}

// lastOf is the day on which the last one of some parts is back, sent on a day to helpers, who have no others.
func lastOf(r api.Round, again, helpers []int, day int) int {
	last := day
	sent := api.Round{Helpers: r.Helpers}
	for i, part := range again {
		s := r.Shares[part]
		sent.Shares = append(sent.Shares, share(s.From, s.To, helpers[i], day))
		last = max(last, backOf(sent, i))
	}
	return last
}

// P5.7 and P5.12: no other helpers write parts again sooner, and none that are told before are as soon.
func TestAssign(t *testing.T) {
	d := dice(9)
	counts := map[int]int{}
	for range 1500 {
		r, _ := d.round(8)
		again := againOf(r)
		if len(again) > 5 {
			continue
		}
		day := d.roll(401)
		helpers, last, e := hand.Assign(r, day)
		best := slices.MinFunc(lists(len(again), len(r.Helpers)), func(a, b []int) int { return lastOf(r, again, a, day) - lastOf(r, again, b, day) })
		wantList(t, r, helpers, e, best...)
		wantOne(t, r, last, e, lastOf(r, again, best, day))
		counts[len(again)]++
	}
	for again := range 5 {
		if counts[again] < 10 {
			t.Error(counts)
		}
	}
}

// tornParts is a round of so many parts of these lengths, one behind the other, that are all torn.
func tornParts(helpers []api.Helper, lengths ...int) api.Round {
	r := api.Round{Text: numbered(10, 10, 10), Helpers: helpers}
	n := 0
	for _, length := range lengths {
		r.Shares = append(r.Shares, share(n, n+length-1, 0, 400))
		r.Sheets = append(r.Sheets, back(""))
		n += length
	}
	return r
}

// P5.7: parts are weighed against each other, of several lists the first one is told, and what was sent before is nothing to it.
func TestAssignments(t *testing.T) {
	two := []api.Helper{{Id: 1, Post: 1, Rate: 1}, {Id: 2, Post: 1, Rate: 1}}
	for _, x := range []struct {
		r    api.Round
		day  int
		want []int
		last int
	}{
		{tornParts(two), 7, nil, 7},
		{tornParts(two), 400, nil, 400},
		{tornParts(two, 3), 0, []int{0}, 5},
		{tornParts(two, 3, 3), 0, []int{0, 1}, 5},
		{tornParts(two, 3, 3, 4), 0, []int{0, 0, 1}, 8},
		{tornParts(two, 3, 3, 6), 0, []int{0, 0, 1}, 8},
		{tornParts(two, 5, 4, 3, 3, 3), 0, []int{0, 0, 1, 1, 1}, 11},
		{tornParts(two, 6, 1, 1), 0, []int{0, 1, 1}, 8},
		// The last one counts alone: as it takes six days anyhow, both others are with the first helper.
		{tornParts(two, 1, 1, 6), 0, []int{0, 0, 1}, 8},
		// Days are rounded up for each part.
		{tornParts([]api.Helper{{Id: 1, Rate: 3}}, 1, 1, 4), 10, []int{0, 0, 0}, 14},
		{tornParts([]api.Helper{{Id: 1, Post: 3, Rate: 1}, {Id: 2, Post: 0, Rate: 2}}, 6, 4), 10, []int{1, 1}, 15},
		{tornParts([]api.Helper{{Id: 1, Post: 3, Rate: 20}, {Id: 2, Post: 4, Rate: 20}}, 6, 4), 10, []int{0, 0}, 18},
		{tornParts([]api.Helper{{Id: 1, Post: 30, Rate: 1}}, 30), 400, []int{0}, 490},
		{tornParts([]api.Helper{{Id: 1, Post: 9, Rate: 1}, {Id: 2, Post: 1, Rate: 1}, {Id: 3, Post: 2, Rate: 2}}, 2), 0, []int{1}, 4},
	} {
		helpers, last, e := hand.Assign(x.r, x.day)
		wantList(t, x.r.Shares, helpers, e, x.want...)
		wantOne(t, x.r.Shares, last, e, x.last)
	}
}
