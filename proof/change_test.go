package proof_test

import (
	"slices"
	"testing"

	"postil/api"
	"postil/proof"
)

// wantNoMore checks that no more remains in other proofs of the same pages, on any page and on all of them, and that the chief has no more pages to read; it tells whether less remains on all of them.
func wantNoMore(t *testing.T, p, other api.Proofs) bool {
	t.Helper()
	for page := range p.Pages {
		a, _ := proof.Remain(p, page)
		b, e := proof.Remain(other, page)
		if e != api.OK || b.Hi > a.Hi {
			t.Error(brief(p), brief(other), page, a, b, e)
		}
	}
	a, _ := proof.Total(p)
	b, e := proof.Total(other)
	if e != api.OK || b.Hi > a.Hi {
		t.Error(brief(p), brief(other), a, b, e)
	}
	for most := range 4 {
		l, _ := proof.Chief(p, most)
		m, e := proof.Chief(other, most)
		if e != api.OK || len(m) > len(l) {
			t.Error(brief(p), brief(other), most, l, m, e)
		}
	}
	return b.Hi < a.Hi
}

// P9.11: readers who miss less leave no more, as long as there is a truth, and more readers who miss less no truth where there was none.
func TestReadersWhoMissLess(t *testing.T) {
	d := dice(21)
	less := 0
	for range 2000 {
		p := d.proofs(6, 4)
		other := with(p, func(p *api.Proofs) {
			for _, l := range [][]api.Reader{p.Firsts, p.Seconds} {
				for i, r := range l {
					l[i].Miss = one(&d, r.Miss, r.Miss, max(r.Miss-1, 0), r.Miss/2, 0)
				}
			}
		})
		_, e := proof.Total(p)
		_, f := proof.Total(other)
		if e != api.OK && f == api.OK {
			t.Error(brief(p), brief(other))
		}
		if f == api.OK && wantNoMore(t, p, other) {
			less++
		}
	}
	if less < 200 {
		t.Error(less)
	}
}

// P9.11: a page that the chief reads, who misses nothing, leaves nothing itself, and no more on any other page, whatever is found on it.
func TestPageThatTheChiefReads(t *testing.T) {
	d := dice(22)
	less := 0
	for range 1000 {
		p, _ := d.honest(d.begun(d.text(3, 4, 4), 6, 2))
		if len(p.Seconds) == api.MaxReaders {
			continue
		}
		for page, x := range p.Pages {
			if x.Second >= 0 {
				continue
			}
			found := foundOn(p, page)
			for _, at := range placesOf(p.Text, x.From, x.To) {
				if !slices.Contains(found, at) && d.roll(3) == 0 {
					found = append(found, at)
				}
			}
			other := with(p, func(p *api.Proofs) {
				p.Pages[page].Second = len(p.Seconds)
				p.Seconds = append(p.Seconds, api.Reader{Id: 99})
				for _, at := range placesOf(p.Text, x.From, x.To) {
					if slices.Contains(found, at) {
						p.Pages[page].FoundAsWell = append(p.Pages[page].FoundAsWell, at)
					}
				}
			})
			s, e := proof.Remain(other, page)
			if e == api.ErrBad && len(found) > len(foundOn(p, page)) {
				continue
			}
			wantOne(t, brief(other), s, e, api.Span{})
			if wantNoMore(t, p, other) {
				less++
			}
		}
	}
	if less < 100 {
		t.Error(less)
	}
}

// P9.11 and P9.12: the more may remain, the fewer pages the chief has to read; with any page more no more remains.
func TestMorePagesForTheChief(t *testing.T) {
	d := dice(23)
	for range 500 {
		p, _ := d.honest(d.begun(d.text(3, 4, 4), 8, 2))
		last := len(p.Pages)
		total, _ := proof.Total(p)
		for most := range total.Hi + 2 {
			l, e := proof.Chief(p, most)
			if e != api.OK || len(l) > last || flowOf(p, l) > most {
				t.Error(brief(p), most, l, last, e)
			}
			for page := range p.Pages {
				if !slices.Contains(l, page) && flowOf(p, append(slices.Clone(l), page)) > most {
					t.Error(brief(p), most, l, page)
				}
			}
			last = len(l)
		}
		if last != 0 {
			t.Error(brief(p), last)
		}
	}
}

// parted is proofs of pages of which some have no readers but the first one of each side, and all others none of these, and which pages these are.
func parted(d *dice) (p api.Proofs, first []int) {
	p = d.begun(d.text(4, 4, 4), 8, 2)
	p.Firsts, p.Seconds = readers(1, 50, 67, 34), readers(4, 67, 10, 80)
	for page := range p.Pages {
		x := &p.Pages[page]
		if d.roll(2) == 0 {
			first = append(first, page)
			x.First, x.Second = one(d, -1, 0, 0), one(d, -1, 0, 0)
		} else {
			x.First, x.Second = one(d, -1, 1, 2), one(d, -1, 1, 2)
		}
	}
	p, _ = d.honest(p)
	return p, first
}

// P9.11: pages that share no readers do not matter to each other: what is found on some, and what their readers miss, changes nothing on all others.
func TestPagesThatShareNoReaders(t *testing.T) {
	d := dice(24)
	changed := 0
	for range 1000 {
		p, first := parted(&d)
		other, _ := d.honest(with(p, func(p *api.Proofs) {
			for page := range p.Pages {
				p.Pages[page].Found, p.Pages[page].FoundAsWell = nil, nil
			}
			for reader := 1; reader < 3; reader++ {
				p.Firsts[reader].Miss, p.Seconds[reader].Miss = d.roll(91), d.roll(91)
			}
		}))
		for _, page := range first {
			other.Pages[page] = p.Pages[page]
		}
		a, e := proof.Worst(p)
		b, f := proof.Worst(other)
		if e != api.OK || f != api.OK {
			t.Fatal(brief(p), brief(other), e, f)
		}
		for _, page := range first {
			s, _ := proof.Remain(p, page)
			r, e := proof.Remain(other, page)
			wantOne(t, brief(p), r, e, s)
			wantOne(t, brief(p), b[page], e, a[page])
		}
		if !slices.Equal(a, b) {
			changed++
		}
	}
	if changed < 300 {
		t.Error(changed)
	}
}

// P9.11: what remains of pages that share no readers is what remains of either, together.
func TestPartsOfProofs(t *testing.T) {
	d := dice(25)
	for range 1000 {
		p, first := parted(&d)
		var parts [2]api.Proofs
		var of [2][]int
		for part := range parts {
			parts[part] = api.Proofs{Text: p.Text, Firsts: p.Firsts, Seconds: p.Seconds}
			for page, x := range p.Pages {
				if slices.Contains(first, page) == (part == 0) {
					parts[part].Pages = append(parts[part].Pages, x)
					of[part] = append(of[part], page)
				}
			}
		}
		all, e := proof.Total(p)
		worst, _ := proof.Worst(p)
		together := 0
		for part, q := range parts {
			s, f := proof.Total(q)
			l, g := proof.Worst(q)
			if f != api.OK || g != api.OK {
				t.Error(brief(q), f, g)
			}
			together += s.Hi
			for i, page := range of[part] {
				wantOne(t, brief(p), worst[page], g, l[i])
			}
		}
		wantOne(t, brief(p), all.Hi, e, together)
	}
}
