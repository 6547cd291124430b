package proof_test

import (
	"slices"
	"strings"
	"testing"

	"postil/api"
	"postil/proof"
)

// wide is proofs in which each reader has pages, and something is found on each of them.
func wide() api.Proofs {
	p := api.Proofs{Text: great(), Firsts: readers(1, 50, 0, 90), Seconds: readers(4, 90, 90, 90)}
	for n := range api.MaxPages {
		x := api.Page{From: 7 * n, To: 7*n + 5, First: n % 3, Second: (n + n/3) % 3}
		l := placesOf(p.Text, x.From, x.To)
		x.Found, x.FoundAsWell = slices.Clone(l[:40]), slices.Clone(l[20:40])
		p.Pages = append(p.Pages, x)
	}
	return p
}

// want checks whether proofs are valid, and that all calls return ErrProofs first if they are not, whatever the arguments are.
func want(t *testing.T, isValid bool, p api.Proofs) {
	t.Helper()
	e := api.ErrProofs
	if isValid {
		e = api.OK
	}
	wantErrors(t, input{p: p}, e, "Check")
	if !isValid {
		for _, n := range []int{0, -1, 100} {
			wantErrors(t, input{p: p, page: n, second: n < 0, reader: n, most: n}, e, calls...)
		}
	}
}

// P9.1: the numbers of readers, their Ids, and what they miss.
func TestReaders(t *testing.T) {
	for n := range 10 {
		l := make([]int, n)
		want(t, n <= 3, api.Proofs{Text: great(), Firsts: readers(1, l...)})
		want(t, n <= 3, api.Proofs{Text: great(), Seconds: readers(1, l...)})
		want(t, n <= 3, api.Proofs{Text: great(), Firsts: readers(1, 1, 1, 1), Seconds: readers(9, l...)})
		want(t, n <= 3, api.Proofs{Text: great(), Firsts: readers(1, l...), Seconds: readers(90, 1)})
	}
	for side := range 2 {
		for reader := range 3 {
			other := func(r api.Reader) api.Proofs {
				return with(wide(), func(p *api.Proofs) { [][]api.Reader{p.Firsts, p.Seconds}[side][reader] = r })
			}
			for _, n := range append([]int{-100, -1, 0, 1, 50, 89, 90, 91, 99, 100, 101}, far...) {
				want(t, n >= 0 && n <= 90, other(api.Reader{Id: 7, Miss: n}))
			}
			for _, n := range append([]int{-100, -1, 9998, 9999}, far...) {
				want(t, n >= 0 && n <= 9999, other(api.Reader{Id: n}))
			}
			// The Ids are 1 to 6: each one is its reader's alone, of whichever side the other reader is.
			for id := range 9 {
				want(t, id == 0 || id > 6 || id == 1+3*side+reader, other(api.Reader{Id: id}))
			}
		}
	}
}

// P9.1: readers need no pages, and pages no readers; there may be neither.
func TestWithoutReadersAndPages(t *testing.T) {
	want(t, true, api.Proofs{Text: lined(1)})
	want(t, true, api.Proofs{Text: lined(1), Firsts: readers(1, 0, 0, 0), Seconds: readers(4, 90, 90, 90)})
	want(t, true, api.Proofs{Text: lined(1), Pages: []api.Page{{First: -1, Second: -1}}})
	want(t, false, api.Proofs{Text: lined(1), Pages: []api.Page{{}}})
	want(t, false, api.Proofs{Text: lined(1), Pages: []api.Page{{First: -1}}})
	want(t, false, api.Proofs{Text: lined(1), Pages: []api.Page{{Second: -1}}})
}

// P9.1: how many pages there may be.
func TestManyPages(t *testing.T) {
	for n := range 60 {
		p := api.Proofs{Text: great()}
		for from := range n {
			p.Pages = append(p.Pages, api.Page{From: from, To: from, First: -1, Second: -1})
		}
		want(t, n <= 8, p)
	}
}

// P9.1: all lines from which pages may be, up to which ones, of a text of two chapters: two pages, one behind the other, or not.
func TestLinesOfPages(t *testing.T) {
	text := book("a/b", "c/d a/b")
	isOne := func(from, to int) bool { return 0 <= from && from <= to && to < 5 }
	for from := -2; from < 8; from++ {
		for to := -2; to < 8; to++ {
			x := api.Page{From: from, To: to, First: -1, Second: -1}
			want(t, isOne(from, to), api.Proofs{Text: text, Pages: []api.Page{x}})
			for as := -2; as < 8; as++ {
				for upTo := -2; upTo < 8; upTo++ {
					y := api.Page{From: as, To: upTo, First: -1, Second: -1}
					want(t, isOne(from, to) && isOne(as, upTo) && to < as, api.Proofs{Text: text, Pages: []api.Page{x, y}})
				}
			}
		}
	}
}

// P9.1: pages are read by readers that are there, or by nobody.
func TestReadersOfPages(t *testing.T) {
	for firsts := range 4 {
		for seconds := range 4 {
			p := api.Proofs{Text: lined(2, 2), Firsts: readers(1, make([]int, firsts)...), Seconds: readers(9, make([]int, seconds)...)}
			for _, n := range append([]int{-1, 0, 1, 2, 3, 4}, far...) {
				for _, page := range []int{0, 1} {
					p.Pages = []api.Page{{From: 0, To: 0, First: -1, Second: -1}, {From: 1, To: 1, First: -1, Second: -1}}
					p.Pages[page].First = n
					want(t, n >= -1 && n < firsts, p)
					p.Pages[page].First, p.Pages[page].Second = -1, n
					want(t, n >= -1 && n < seconds, p)
				}
			}
		}
	}
}

// P9.1: what is found are places of the page, in order, no one twice: all lists of up to three places of a text, and of some that it has not.
func TestFoundPlaces(t *testing.T) {
	text := book("a b/c", "d e/f")
	some := append(placesOf(text, 0, 3), place(0, 0, 2), place(0, 2, 0), place(2, 0, 0), place(0, 0, -1), place(0, -1, 0), place(-1, 0, 0))
	for from := range 4 {
		for to := from; to < 4; to++ {
			on := placesOf(text, from, to)
			check := func(l ...api.Place) {
				isValid := true
				for i, at := range l {
					isValid = isValid && slices.Contains(on, at) && (i == 0 || slices.Index(on, l[i-1]) < slices.Index(on, at))
				}
				x := api.Page{From: from, To: to, First: 0, Second: 0}
				x.Found = l
				want(t, isValid, api.Proofs{Text: text, Firsts: readers(1, 0), Seconds: readers(2, 0), Pages: []api.Page{x}})
				x.Found, x.FoundAsWell = nil, l
				want(t, isValid, api.Proofs{Text: text, Firsts: readers(1, 0), Seconds: readers(2, 0), Pages: []api.Page{x}})
			}
			for _, a := range some {
				check(a)
				for _, b := range some {
					check(a, b)
					if from%2 == 0 && to-from == 1 {
						for _, c := range some {
							check(a, b, c)
						}
					}
				}
			}
		}
	}
}

// P9.1: nothing is found on a side that nobody has read, also if somebody has read the page on the other side.
func TestFoundByNobody(t *testing.T) {
	l := places(place(0, 0, 0))
	for _, first := range []int{-1, 0} {
		for _, second := range []int{-1, 0} {
			for _, found := range [][]api.Place{nil, {}, l} {
				for _, asWell := range [][]api.Place{nil, {}, l} {
					p := api.Proofs{Text: lined(1), Firsts: readers(1, 0), Seconds: readers(2, 0)}
					p.Pages = []api.Page{{First: first, Second: second, Found: found, FoundAsWell: asWell}}
					want(t, (len(found) == 0 || first == 0) && (len(asWell) == 0 || second == 0), p)
				}
			}
		}
	}
}

// P9.1: a page that is wrong is seen wherever it is, on either side.
func TestWrongPages(t *testing.T) {
	for n := range api.MaxPages {
		for _, change := range []func(x *api.Page){
			func(x *api.Page) { x.First = 3 },
			func(x *api.Page) { x.Second = -2 },
			func(x *api.Page) { x.From = x.To + 1 },
			func(x *api.Page) { x.To = 60 },
			func(x *api.Page) { x.Found[7].Word = 10 },
			func(x *api.Page) { x.Found[39] = x.Found[38] },
			func(x *api.Page) { x.FoundAsWell[0], x.FoundAsWell[1] = x.FoundAsWell[1], x.FoundAsWell[0] },
			func(x *api.Page) { x.First = -1 },
			func(x *api.Page) { x.Second = -1 },
			func(x *api.Page) { x.Found = append(x.Found, place(0, 0, 0)) },
			func(x *api.Page) { x.FoundAsWell = slices.Repeat(x.FoundAsWell[:1], 1000) },
		} {
			want(t, false, with(wide(), func(p *api.Proofs) { change(&p.Pages[n]) }))
		}
	}
	want(t, true, wide())
}

// R5: numbers of either sign, however great, in each field of a page and each argument.
func TestFarNumbers(t *testing.T) {
	for _, n := range far {
		for page := range api.MaxPages {
			for _, f := range []func(x *api.Page) *int{
				func(x *api.Page) *int { return &x.From }, func(x *api.Page) *int { return &x.To },
				func(x *api.Page) *int { return &x.First }, func(x *api.Page) *int { return &x.Second },
				func(x *api.Page) *int { return &x.Found[9].Chapter }, func(x *api.Page) *int { return &x.Found[9].Line }, func(x *api.Page) *int { return &x.Found[9].Word },
				func(x *api.Page) *int { return &x.FoundAsWell[9].Chapter }, func(x *api.Page) *int { return &x.FoundAsWell[9].Line }, func(x *api.Page) *int { return &x.FoundAsWell[9].Word },
			} {
				want(t, false, with(wide(), func(p *api.Proofs) { *f(&p.Pages[page]) = n }))
			}
			want(t, false, with(wide(), func(p *api.Proofs) { p.Pages[page].From, p.Pages[page].To = n, n }))
		}
		x := input{p: sample(), page: n, reader: n, most: n}
		wantErrors(t, x, api.ErrArg, append(ofPages, "Bound")...)
		if n < 0 {
			wantErrors(t, x, api.ErrArg, "Chief")
		} else {
			wantErrors(t, x, api.OK, "Chief")
		}
		x.second = true
		wantErrors(t, x, api.ErrArg, "Bound")
	}
}

// badTexts is texts that are not valid.
func badTexts() []api.Text {
	l := []api.Text{{}, book("a", "b", "c", "d", "e", "f", "g"), book("a/"), book("a", ""), book(strings.Repeat("a ", 11)), book(strings.Repeat("a/", 10) + "a")}
	same := book("a", "b")
	same.Chapters[1].Id = 7
	l = append(l, same)
	for _, n := range far {
		other := book("a")
		other.Chapters[0].Id = n
		l = append(l, other)
	}
	for _, word := range noWords {
		l = append(l, api.Text{Chapters: []api.Chapter{{Lines: [][]string{{"sea", word}}}}})
	}
	return l
}

// P9.1 and R1: leaf.Check's error comes first, whatever else is wrong, in all calls.
func TestErrorsOfTexts(t *testing.T) {
	for _, text := range badTexts() {
		for _, p := range []api.Proofs{{}, sample(), wide(), {Firsts: readers(-1, 100, 100)}, {Pages: make([]api.Page, 20)}} {
			p.Text = text
			for _, n := range []int{-1, 0, 100} {
				wantErrors(t, input{p: p, page: n, second: n < 0, reader: n, most: n}, api.ErrText, calls...)
			}
		}
	}
}

// P9.1 to P9.4 and P9.7: ErrArg unless the argument is in its range.
func TestErrorsOfArguments(t *testing.T) {
	for n := -100; n <= 100; n++ {
		want := func(isRight bool, x input, calls ...string) {
			t.Helper()
			e := api.ErrArg
			if isRight {
				e = api.OK
			}
			wantErrors(t, x, e, calls...)
		}
		x := input{p: wide(), page: n, reader: n, most: n}
		want(n >= 0 && n < 8, x, "Words", "Found", "Both", "Guess")
		want(n >= 0 && n < 3, x, "Bound")
		want(n >= 0 && n < 3, input{p: x.p, reader: n, second: true}, "Bound")
		y := input{p: sample(), page: n, reader: n, most: n}
		want(n >= 0 && n < 2, y, "Words", "Found", "Both", "Remain")
		want(n >= 0 && n < 2, y, "Bound")
		want(n == 0, input{p: y.p, reader: n, second: true}, "Bound")
		want(n >= 0, y, "Chief")
		z := input{p: api.Proofs{Text: lined(1)}, page: n, reader: n, most: n}
		want(false, z, append(ofPages, "Bound")...)
		want(n >= 0, z, "Chief")
	}
}

// untrue is proofs of which there is no truth: the reader misses nothing, but did not find what the other one did.
func untrue() api.Proofs {
	return rows(readers(1, 0), readers(2, 50), row{words: 4, first: 0, second: 0, found: 1, foundAsWell: 2}, row{words: 4, first: -1, second: 0, foundAsWell: 2})
}

// P9.4 to P9.7 and R1: ErrBad if there is no truth, behind ErrArg; calls that are not about truths return what they do.
func TestErrorsWithoutTruth(t *testing.T) {
	for page := range 2 {
		x := input{p: untrue(), page: page, second: page == 1}
		wantErrors(t, x, api.ErrBad, ofTruths...)
		wantErrors(t, x, api.OK, "Check", "Words", "Found", "Both", "Bound")
		wantErrors(t, x, api.ErrNone, "Guess")
	}
	for _, n := range append([]int{-1, 2}, far...) {
		x := input{p: untrue(), page: n, reader: n, most: n}
		wantErrors(t, x, api.ErrArg, append(ofPages, "Bound")...)
		wantErrors(t, x, api.ErrBad, "Total", "Worst", "Why")
		if n < 0 {
			wantErrors(t, x, api.ErrArg, "Chief")
		} else {
			wantErrors(t, x, api.ErrBad, "Chief")
		}
	}
}

// P9.4: one reader is enough that there is no truth, whoever it is, and however little is found too much; as much as the bound there may be.
func TestTruthsByReaders(t *testing.T) {
	for reader := range 3 {
		for _, x := range []struct {
			// How much this reader misses and found, and what only the other one found, who may have missed 9 of 10.
			miss, found, other int
			e                  api.Errno
		}{
			{0, 3, 0, api.OK}, {0, 3, 1, api.ErrBad}, {0, 0, 1, api.ErrBad}, {50, 2, 2, api.OK}, {50, 2, 3, api.ErrBad}, {90, 0, 1, api.ErrBad},
			{90, 1, 9, api.OK}, {89, 1, 9, api.ErrBad}, {89, 1, 8, api.OK}, {67, 1, 2, api.OK}, {66, 1, 1, api.OK}, {66, 1, 2, api.ErrBad}, {0, 0, 0, api.OK},
		} {
			p := api.Proofs{Text: lined(10, 10), Firsts: readers(1, 90, 90, 90), Seconds: readers(4, 90, 90, 90)}
			l := placesOf(p.Text, 1, 1)
			page := api.Page{From: 1, To: 1, First: (reader + 1) % 3, Second: reader, Found: l[10-x.other:], FoundAsWell: l[:x.found]}
			if x.other == 0 {
				page.Found = l[:x.found]
			}
			p.Seconds[reader].Miss = x.miss
			p.Pages = []api.Page{page}
			wantErrors(t, input{p: p}, x.e, ofTruths...)
			wantErrors(t, input{p: swapped(p)}, x.e, ofTruths...)
		}
	}
}

// swapped is proofs whose first readers are second ones, and second readers first ones.
func swapped(p api.Proofs) api.Proofs {
	return with(p, func(p *api.Proofs) {
		p.Firsts, p.Seconds = p.Seconds, p.Firsts
		for i, x := range p.Pages {
			p.Pages[i].First, p.Pages[i].Second, p.Pages[i].Found, p.Pages[i].FoundAsWell = x.Second, x.First, x.FoundAsWell, x.Found
		}
	})
}

// R6: what proofs are made of by chance is valid, so that the tests hold for them; often there is a truth, and often none.
func TestProofsByChance(t *testing.T) {
	d := dice(3)
	truths, most := 0, 0
	for range 3000 {
		p := d.proofs(8, 4)
		want(t, true, p)
		if _, e := proof.Total(p); e == api.OK {
			truths++
		}
		most = max(most, len(p.Pages))
	}
	if most != api.MaxPages || truths < 1000 || truths > 2800 {
		t.Error(most, truths)
	}
}
