package proof_test

import (
	"math"
	"reflect"
	"slices"
	"testing"

	"postil/api"
	"postil/proof"
)

// spare is a list with more memory behind its end, in which a mark stands.
func spare[T any](l []T, mark T) []T {
	return append(slices.Clone(l), mark, mark)[:len(l)]
}

// sparedInput is an input with which all calls are OK, and have results, whose lists have more memory behind their ends.
func sparedInput() input {
	p := rows(readers(1, 90, 50), readers(3, 50, 90), row{words: 9, found: 3}, row{words: 9, first: 1, second: 1, found: 4, foundAsWell: 2}, row{words: 4, found: 1, second: -1})
	p.Pages[0].FoundAsWell = placesOf(p.Text, 0, 0)[2:6]
	for i, c := range p.Text.Chapters {
		for n, line := range c.Lines {
			c.Lines[n] = spare(line, "mark")
		}
		p.Text.Chapters[i].Lines = spare(c.Lines, []string{"mark"})
	}
	p.Text.Chapters = spare(p.Text.Chapters, api.Chapter{Id: 77})
	p.Firsts, p.Seconds = spare(p.Firsts, api.Reader{Id: 77}), spare(p.Seconds, api.Reader{Id: 77})
	for i, x := range p.Pages {
		p.Pages[i].Found, p.Pages[i].FoundAsWell = spare(x.Found, place(7, 7, 7)), spare(x.FoundAsWell, place(7, 7, 7))
	}
	p.Pages = spare(p.Pages, api.Page{From: 77})
	return input{p: p, second: true, reader: 1, most: 1}
}

// memory is a copy of all that the lists of arguments have, up to what is behind their ends.
func memory(x input) any {
	p := x.p
	all := []any{slices.Clone(p.Firsts[:cap(p.Firsts)]), slices.Clone(p.Seconds[:cap(p.Seconds)])}
	for _, c := range p.Text.Chapters[:cap(p.Text.Chapters)] {
		all = append(all, c.Id)
		for _, line := range c.Lines[:cap(c.Lines)] {
			all = append(all, slices.Clone(line[:cap(line)]))
		}
	}
	for _, x := range p.Pages[:cap(p.Pages)] {
		all = append(all, x.From, x.To, x.First, x.Second, slices.Clone(x.Found[:cap(x.Found)]), slices.Clone(x.FoundAsWell[:cap(x.FoundAsWell)]))
	}
	return all
}

// R3: no argument is written to, nor the memory behind the end of one; and the same arguments have the same results.
func TestArgumentsAreNotWrittenTo(t *testing.T) {
	x := sparedInput()
	before, first := memory(x), x.all()
	if !reflect.DeepEqual(before, memory(x)) {
		t.Errorf("arguments are %v, not %v any more", memory(x), before)
	}
	for i, o := range x.all() {
		if o.e != api.OK || !reflect.DeepEqual(o, first[i]) {
			t.Errorf("%s: %v, then %v", o.call, first[i], o)
		}
		if slices.ContainsFunc(o.results, isZero) {
			t.Errorf("%s: %v", o.call, o.results)
		}
	}
}

// R3: what is written to a result is seen in no argument, and in no other result.
func TestResultsShareNoMemory(t *testing.T) {
	x := sparedInput()
	before, first := memory(x), x.all()
	for i, o := range x.all() {
		for n, result := range o.results {
			switch l := result.(type) {
			case []int:
				fill(l, 66)
			case []api.Place:
				fill(l, place(6, 6, 6))
			}
			for m, other := range o.results {
				if m > n && !reflect.DeepEqual(other, first[i].results[m]) {
					t.Errorf("%s: %v is %v now", o.call, first[i].results[m], other)
				}
			}
		}
	}
	if !reflect.DeepEqual(before, memory(x)) {
		t.Errorf("arguments are %v, not %v any more", memory(x), before)
	}
	if again := x.all(); !reflect.DeepEqual(first, again) {
		t.Errorf("results are %v, not %v any more", again, first)
	}
}

// fill writes to all memory of a list, up to what is behind its end.
func fill[T any](l []T, mark T) {
	l = l[:cap(l)]
	for i := range l {
		l[i] = mark
	}
}

// R3: nothing is remembered of other arguments.
func TestNothingIsRemembered(t *testing.T) {
	d := dice(31)
	x, y := sparedInput(), input{p: d.proofs(8, 4), page: 1, most: 2}
	first, second := x.all(), y.all()
	if !reflect.DeepEqual(x.all(), first) || !reflect.DeepEqual(y.all(), second) {
		t.Error("results are others now")
	}
}

// R4: nil lists and empty ones are the same.
func TestNilAndEmpty(t *testing.T) {
	for _, text := range []api.Text{{}, {Chapters: []api.Chapter{}}, {Chapters: []api.Chapter{{Lines: [][]string{}}}}, {Chapters: []api.Chapter{{Lines: [][]string{{}}}}}} {
		wantErrors(t, input{p: api.Proofs{Text: text}}, api.ErrText, calls...)
	}
	for _, l := range [][]api.Reader{nil, {}} {
		for _, pages := range [][]api.Page{nil, {}} {
			x := input{p: api.Proofs{Text: lined(3), Firsts: l, Seconds: l, Pages: pages}}
			wantErrors(t, x, api.OK, "Check", "Total", "Worst", "Why", "Chief")
			wantErrors(t, x, api.ErrArg, append(ofPages, "Bound")...)
		}
		for _, found := range [][]api.Place{nil, {}} {
			x := input{p: api.Proofs{Text: lined(3), Firsts: l, Seconds: readers(1, 50), Pages: []api.Page{{First: -1, Found: found, FoundAsWell: found}}}}
			wantErrors(t, x, api.OK, "Check", "Words", "Found", "Both", "Remain", "Total", "Worst", "Why", "Chief")
			wantErrors(t, x, api.ErrNone, "Guess")
			for _, o := range x.all() {
				if o.call == "Found" || o.call == "Both" || o.call == "Chief" {
					wantOne(t, o.call, isZero(o.results[0]), o.e, true)
				}
			}
		}
	}
}

// R5 and R7: no call panics, whatever the numbers and places are, and with an error there is no result.
func TestAnyValues(t *testing.T) {
	numbers := []int{math.MinInt, math.MinInt + 1, math.MinInt32, -2, -1, 0, 1, 2, 3, 7, 8, 9, 10, 50, 60, 90, 91, 100, 600, 9999, 10000, math.MaxInt32, math.MaxInt - 1, math.MaxInt}
	d := dice(32)
	number := func() int {
		if d.roll(12) > 0 {
			return d.roll(2)
		}
		return one(&d, numbers...)
	}
	right := map[string]int{}
	for range 10000 {
		x := input{p: with(d.proofs(5, 3), func(*api.Proofs) {}), page: number(), second: d.roll(2) == 0, reader: number(), most: number()}
		for _, l := range [][]api.Reader{x.p.Firsts, x.p.Seconds} {
			if len(l) > 0 && d.roll(9) == 0 {
				*one(&d, &l[d.roll(len(l))].Id, &l[d.roll(len(l))].Miss) = number()
			}
		}
		if n := len(x.p.Pages); n > 0 {
			page := &x.p.Pages[d.roll(n)]
			switch d.roll(12) {
			case 0:
				*one(&d, &page.From, &page.To, &page.First, &page.Second) = number()
			case 1:
				page.Found = append(page.Found, place(number(), number(), number()))
			case 2:
				page.FoundAsWell = append(page.FoundAsWell, place(number(), number(), number()))
			case 3:
				page.From, page.To = number(), number()
			}
		}
		wantErrors(t, x, api.OK)
		for _, o := range x.all() {
			if o.e == api.OK {
				right[o.call]++
			}
		}
	}
	for _, call := range calls {
		if right[call] < 500 {
			t.Error(call, right[call])
		}
	}
}

// R7: the greatest arguments of all calls: 600 words, on eight pages, each with all readers that there may be.
func TestGreatestArguments(t *testing.T) {
	p := api.Proofs{Text: great(), Firsts: readers(9994, 90, 90, 90), Seconds: readers(9997, 90, 90, 90)}
	for n := range api.MaxPages {
		x := api.Page{From: 7 * n, To: 7*n + 6, First: n % 3, Second: n / 3}
		if n == api.MaxPages-1 {
			x.To = 59
		}
		l := placesOf(p.Text, x.From, x.To)
		x.Found, x.FoundAsWell = l[:30], l[20:40]
		p.Pages = append(p.Pages, x)
	}
	wantErrors(t, input{p: p, page: 7, second: true, reader: 2, most: math.MaxInt}, api.OK, calls...)
	n, e := proof.Words(p, 7)
	wantOne(t, "words", n, e, 110)
	s, e := proof.Total(p)
	wantOne(t, "total", s, e, api.Span{Lo: 0, Hi: 600 - 8*40})
	worst, e := proof.Worst(p)
	wantList(t, "worst", worst, e, 30, 30, 30, 30, 30, 30, 30, 70)
	chief, e := proof.Chief(p, 0)
	wantList(t, "chief", chief, e, 0, 1, 2, 3, 4, 5, 6, 7)
	// All 600 words are found by both, on one page.
	l := placesOf(p.Text, 0, 59)
	p.Pages = []api.Page{{From: 0, To: 59, First: 2, Second: 2, Found: l, FoundAsWell: l}}
	n, e = proof.Bound(p, true, 2)
	wantOne(t, "bound", n, e, 6000)
	s, e = proof.Guess(p, 0)
	wantOne(t, "guess", s, e, api.Span{Lo: 600, Hi: 600})
	both, e := proof.Both(p, 0)
	wantList(t, "both", both, e, l...)
	p.Pages[0].Found, p.Pages[0].FoundAsWell = l[:300], l[299:]
	s, e = proof.Guess(p, 0)
	wantOne(t, "guess", s, e, api.Span{Lo: 300 * 301, Hi: 300 * 301})
	s, e = proof.Total(p)
	wantOne(t, "total", s, e, api.Span{})
}
