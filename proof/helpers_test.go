package proof_test

import (
	"fmt"
	"math"
	"reflect"
	"slices"
	"strings"
	"testing"

	"postil/api"
	"postil/proof"
)

// far is numbers outside of everything that is allowed, of either sign.
var far = []int{math.MinInt, math.MinInt + 1, math.MinInt32, -2, 10000, math.MaxInt32, math.MaxInt - 1, math.MaxInt}

// noWords is texts that are no words.
var noWords = []string{"", "Sea", "the sea", "sea ", " sea", "`", "{", "é", "\x00", "s\xff", "abcdefghijklm", strings.Repeat("a", 300)}

// calls is the names of all calls, and those of them that have a page, or need a truth.
var (
	calls    = []string{"Check", "Words", "Found", "Both", "Bound", "Guess", "Remain", "Total", "Worst", "Why", "Chief"}
	ofPages  = []string{"Words", "Found", "Both", "Guess", "Remain"}
	ofTruths = []string{"Remain", "Total", "Worst", "Why", "Chief"}
)

// book is a text of chapters with Ids from 7 down, whose lines are parted by strokes.
func book(chapters ...string) api.Text {
	var t api.Text
	for i, s := range chapters {
		c := api.Chapter{Id: 7 - i}
		for line := range strings.SplitSeq(s, "/") {
			c.Lines = append(c.Lines, strings.Fields(line))
		}
		t.Chapters = append(t.Chapters, c)
	}
	return t
}

// lined is a text of one chapter, whose lines have so many words each.
func lined(words ...int) api.Text {
	c := api.Chapter{Id: 1}
	for _, n := range words {
		c.Lines = append(c.Lines, slices.Repeat([]string{"sea"}, n))
	}
	return api.Text{Chapters: []api.Chapter{c}}
}

// great is the greatest text there is: 60 lines, of 10 words each.
func great() api.Text {
	var t api.Text
	for i := range api.MaxChapters {
		c := lined(slices.Repeat([]int{10}, 10)...).Chapters[0]
		c.Id = i
		t.Chapters = append(t.Chapters, c)
	}
	return t
}

func place(chapter, line, word int) api.Place {
	return api.Place{Chapter: chapter, Line: line, Word: word}
}

func places(l ...api.Place) []api.Place { return l }

// readers is readers who miss so much, with Ids from one on.
func readers(id int, miss ...int) []api.Reader {
	var l []api.Reader
	for i, n := range miss {
		l = append(l, api.Reader{Id: id + i, Miss: n})
	}
	return l
}

// sample is the proofs of the chapter's examples.
func sample() api.Proofs {
	text := book("the sea is old/old the sea", "sea and sea")
	text.Chapters[1].Id = 3
	return api.Proofs{
		Text:    text,
		Firsts:  readers(1, 50, 0),
		Seconds: readers(3, 60),
		Pages: []api.Page{
			{From: 0, To: 0, First: 0, Second: 0, Found: places(place(0, 0, 0)), FoundAsWell: places(place(0, 0, 0), place(0, 0, 3))},
			{From: 1, To: 2, First: 0, Second: -1, Found: places(place(0, 1, 1))},
		},
	}
}

// row is a page as a row of numbers: who read it, and how many of its words the first reader found from its first one on, and the second one up to its last one.
type row struct{ words, first, second, found, foundAsWell int }

// rows is proofs of pages of one line each, of a text of one chapter, whose last line is on no page.
func rows(firsts, seconds []api.Reader, l ...row) api.Proofs {
	p := api.Proofs{Firsts: firsts, Seconds: seconds}
	var words []int
	for n, r := range l {
		page := api.Page{From: n, To: n, First: r.first, Second: r.second}
		for word := range r.words {
			if word < r.found {
				page.Found = append(page.Found, place(0, n, word))
			}
			if word >= r.words-r.foundAsWell {
				page.FoundAsWell = append(page.FoundAsWell, place(0, n, word))
			}
		}
		words = append(words, r.words)
		p.Pages = append(p.Pages, page)
	}
	p.Text = lined(append(words, 1)...)
	return p
}

// with is proofs in which something is changed: their lists are others then.
func with(p api.Proofs, change func(p *api.Proofs)) api.Proofs {
	other := api.Proofs{Firsts: slices.Clone(p.Firsts), Seconds: slices.Clone(p.Seconds), Pages: slices.Clone(p.Pages)}
	for _, c := range p.Text.Chapters {
		var lines [][]string
		for _, line := range c.Lines {
			lines = append(lines, slices.Clone(line))
		}
		other.Text.Chapters = append(other.Text.Chapters, api.Chapter{Id: c.Id, Lines: lines})
	}
	for i, page := range other.Pages {
		other.Pages[i].Found, other.Pages[i].FoundAsWell = slices.Clone(page.Found), slices.Clone(page.FoundAsWell)
	}
	change(&other)
	return other
}

// placesOf is all places of the lines of a text from one on, up to another one.
func placesOf(t api.Text, from, to int) []api.Place {
	var l []api.Place
	before := 0
	for i, c := range t.Chapters {
		for n, line := range c.Lines {
			for word := range line {
				if from <= before && before <= to {
					l = append(l, place(i, n, word))
				}
			}
			before++
		}
	}
	return l
}

// linesOf is how many lines a text has.
func linesOf(t api.Text) int {
	n := 0
	for _, c := range t.Chapters {
		n += len(c.Lines)
	}
	return n
}

// foundOn is all places that are found on a page: the word of the document.
func foundOn(p api.Proofs, page int) []api.Place {
	var l []api.Place
	x := p.Pages[page]
	for _, at := range placesOf(p.Text, x.From, x.To) {
		if slices.Contains(x.Found, at) || slices.Contains(x.FoundAsWell, at) {
			l = append(l, at)
		}
	}
	return l
}

func bothOn(p api.Proofs, page int) []api.Place {
	var l []api.Place
	for _, at := range foundOn(p, page) {
		if slices.Contains(p.Pages[page].Found, at) && slices.Contains(p.Pages[page].FoundAsWell, at) {
			l = append(l, at)
		}
	}
	return l
}

// ofReader calls f for each page that a reader has read, with how many places this reader found on it.
func ofReader(p api.Proofs, second bool, reader int, f func(page, found int)) {
	for i, x := range p.Pages {
		if !second && x.First == reader {
			f(i, len(x.Found))
		}
		if second && x.Second == reader {
			f(i, len(x.FoundAsWell))
		}
	}
}

// mayMiss tells whether a reader may have missed all others of so many errors of each page: the word of the document.
func mayMiss(p api.Proofs, second bool, reader int, errors []int) bool {
	miss := 0
	if second {
		miss = p.Seconds[reader].Miss
	} else {
		miss = p.Firsts[reader].Miss
	}
	sum, found := 0, 0
	ofReader(p, second, reader, func(page, n int) {
		sum += errors[page]
		found += n
	})
	return sum*(100-miss) <= 100*found
}

// isTruth tells whether so many errors of each page are a truth.
func isTruth(p api.Proofs, errors []int) bool {
	for page, x := range p.Pages {
		if errors[page] < len(foundOn(p, page)) || errors[page] > len(placesOf(p.Text, x.From, x.To)) {
			return false
		}
	}
	for reader := range p.Firsts {
		if !mayMiss(p, false, reader, errors) {
			return false
		}
	}
	for reader := range p.Seconds {
		if !mayMiss(p, true, reader, errors) {
			return false
		}
	}
	return true
}

// remains is what remains of each page, in each truth: all numbers of errors are tried.
func remains(p api.Proofs) [][]int {
	lists := [][]int{nil}
	for page, x := range p.Pages {
		var longer [][]int
		for _, l := range lists {
			for n := len(foundOn(p, page)); n <= len(placesOf(p.Text, x.From, x.To)); n++ {
				longer = append(longer, append(slices.Clone(l), n))
			}
		}
		lists = longer
	}
	lists = slices.DeleteFunc(lists, func(errors []int) bool { return !isTruth(p, errors) })
	for _, errors := range lists {
		for page := range errors {
			errors[page] -= len(foundOn(p, page))
		}
	}
	return lists
}

// errorsOf is how many errors each page has if so many remain.
func errorsOf(p api.Proofs, remain []int) []int {
	l := slices.Clone(remain)
	for page := range l {
		l[page] += len(foundOn(p, page))
	}
	return l
}

func sum(l []int) int {
	n := 0
	for _, x := range l {
		n += x
	}
	return n
}

// without is the sum of a list without what has some indices.
func without(l, indices []int) int {
	n := sum(l)
	for _, i := range indices {
		n -= l[i]
	}
	return n
}

// boundOf is the most errors that the pages of a reader may have: all numbers are tried.
func boundOf(p api.Proofs, second bool, reader int) int {
	n := 0
	for mayMiss(api.Proofs{Firsts: p.Firsts, Seconds: p.Seconds, Pages: onePage(p, second, reader)}, second, reader, []int{n + 1}) {
		n++
	}
	return n
}

// onePage is all that a reader found, as if it were on one page.
func onePage(p api.Proofs, second bool, reader int) []api.Page {
	page := api.Page{First: reader, Second: reader}
	ofReader(p, second, reader, func(_, found int) {
		page.Found = append(page.Found, make([]api.Place, found)...)
		page.FoundAsWell = append(page.FoundAsWell, make([]api.Place, found)...)
	})
	return []api.Page{page}
}

// provedBy is what some readers prove: the word of the document.
func provedBy(p api.Proofs, firsts, seconds []int) int {
	n := 0
	read := map[int]bool{}
	leaves := func(second bool, reader int) {
		n += boundOf(p, second, reader)
		ofReader(p, second, reader, func(page, _ int) {
			n -= len(foundOn(p, page))
			read[page] = true
		})
	}
	for _, reader := range firsts {
		leaves(false, reader)
	}
	for _, reader := range seconds {
		leaves(true, reader)
	}
	for page, x := range p.Pages {
		if !read[page] {
			n += len(placesOf(p.Text, x.From, x.To)) - len(foundOn(p, page))
		}
	}
	return n
}

// sided is a list of readers, firsts before seconds, as a list of either side.
func sided(p api.Proofs, l []int) (firsts, seconds []int) {
	for _, reader := range l {
		if reader < len(p.Firsts) {
			firsts = append(firsts, reader)
		} else {
			seconds = append(seconds, reader-len(p.Firsts))
		}
	}
	return firsts, seconds
}

// all is all lists of different indices below n, in increasing order, the shortest ones first, and those of a length by their first index that differs.
func all(n int) [][]int {
	var l [][]int
	var more func(begun []int, from, left int)
	more = func(begun []int, from, left int) {
		if left == 0 {
			l = append(l, slices.Clone(begun))
		}
		for i := from; left > 0 && i < n; i++ {
			more(append(begun, i), i+1, left-1)
		}
	}
	for length := range n + 1 {
		more(nil, 0, length)
	}
	return l
}

// flow is how many errors may remain on each page: they are raised one by one as long as this goes, where others may be lowered for it.
type flow struct {
	p       api.Proofs
	n, most []int
	left    [2][]int // of each reader; of nobody at the end
	reached map[int]bool
}

// newFlow is a flow of no errors yet, in which none may remain on some pages.
func newFlow(p api.Proofs, chief []int) *flow {
	f := &flow{p: p, n: make([]int, len(p.Pages))}
	for page, x := range p.Pages {
		most := len(placesOf(p.Text, x.From, x.To)) - len(foundOn(p, page))
		if slices.Contains(chief, page) {
			most = 0
		}
		f.most = append(f.most, most)
	}
	for side, l := range [][]api.Reader{p.Firsts, p.Seconds} {
		for reader := range l {
			left := boundOf(p, side == 1, reader)
			ofReader(p, side == 1, reader, func(page, _ int) { left -= len(foundOn(p, page)) })
			f.left[side] = append(f.left[side], left)
		}
		f.left[side] = append(f.left[side], math.MaxInt32)
	}
	return f
}

// ends is the first reader of a page and the second one, by their indices; nobody is behind all of them.
func (f *flow) ends(page int) (first, second int) {
	first, second = f.p.Pages[page].First, f.p.Pages[page].Second
	if first < 0 {
		first = len(f.p.Firsts)
	}
	if second < 0 {
		second = len(f.p.Seconds)
	}
	return first, second
}

// raise raises one page of a first reader, and tells whether this goes.
func (f *flow) raise(first int) bool {
	if f.reached[first] {
		return false
	}
	f.reached[first] = true
	for page := range f.n {
		x, second := f.ends(page)
		if x != first || f.n[page] == f.most[page] {
			continue
		}
		if f.left[1][second] > 0 {
			f.left[1][second]--
			f.n[page]++
			return true
		}
		for other := range f.n {
			y, as := f.ends(other)
			if as == second && f.n[other] > 0 && other != page && f.raise(y) {
				f.n[other]--
				f.n[page]++
				return true
			}
		}
	}
	return false
}

// flowOf is how many errors remain at most if the chief has read some pages: there is a truth.
func flowOf(p api.Proofs, chief []int) int {
	f := newFlow(p, chief)
	for first := 0; first < len(f.left[0]); {
		f.reached = map[int]bool{}
		if f.left[0][first] > 0 && f.raise(first) {
			f.left[0][first]--
		} else {
			first++
		}
	}
	return sum(f.n)
}

// dice are numbers that look like chance, the same ones in each run.
type dice uint64

// roll is a number below n.
func (d *dice) roll(n int) int {
	*d = *d*6364136223846793005 + 1442695040888963407
	return int(uint64(*d) >> 33 % uint64(n))
}

// one is one of several things.
func one[T any](d *dice, l ...T) T { return l[d.roll(len(l))] }

// text is a text of up to so many chapters, of up to so many lines each, of up to so many words.
func (d *dice) text(chapters, lines, words int) api.Text {
	var t api.Text
	for i := range 1 + d.roll(chapters) {
		c := api.Chapter{Id: i}
		for range 1 + d.roll(lines) {
			var line []string
			for range 1 + d.roll(words) {
				line = append(line, one(d, "a", "b", "sea"))
			}
			c.Lines = append(c.Lines, line)
		}
		t.Chapters = append(t.Chapters, c)
	}
	return t
}

// begun is proofs of a text, with up to so many pages of up to so many lines, and nothing that is found.
func (d *dice) begun(t api.Text, pages, lines int) api.Proofs {
	p := api.Proofs{Text: t}
	for side, l := range []*[]api.Reader{&p.Firsts, &p.Seconds} {
		for i := range d.roll(api.MaxReaders + 1) {
			*l = append(*l, api.Reader{Id: 10*side + i, Miss: one(d, 0, 1, 10, 33, 34, 50, 50, 67, 80, 90)})
		}
	}
	from := d.roll(2)
	for range pages {
		to := from + d.roll(lines)
		if to >= linesOf(t) {
			break
		}
		p.Pages = append(p.Pages, api.Page{From: from, To: to, First: d.roll(len(p.Firsts)+1) - 1, Second: d.roll(len(p.Seconds)+1) - 1})
		from = to + 1 + d.roll(2)*d.roll(2)
	}
	return p
}

// some is some of several places, in their order.
func (d *dice) some(l []api.Place, oneOf int) []api.Place {
	return slices.DeleteFunc(slices.Clone(l), func(api.Place) bool { return d.roll(oneOf) > 0 })
}

// blind is proofs in which readers found anything: there may be no truth.
func (d *dice) blind(p api.Proofs) api.Proofs {
	return with(p, func(p *api.Proofs) {
		for i, x := range p.Pages {
			l := placesOf(p.Text, x.From, x.To)
			if x.First >= 0 {
				p.Pages[i].Found = d.some(l, 1+d.roll(4))
			}
			if x.Second >= 0 {
				p.Pages[i].FoundAsWell = d.some(l, 1+d.roll(4))
			}
		}
	})
}

// honest is proofs of pages that have some errors, of which no reader missed more than the reader may, and these errors.
func (d *dice) honest(p api.Proofs) (api.Proofs, [][]api.Place) {
	errors := make([][]api.Place, len(p.Pages))
	for i, x := range p.Pages {
		errors[i] = d.some(placesOf(p.Text, x.From, x.To), 1+d.roll(4))
	}
	p = with(p, func(p *api.Proofs) {
		for reader, r := range p.Firsts {
			d.read(*p, r, errors, func(page int) bool { return p.Pages[page].First == reader }, func(page int, at api.Place) {
				p.Pages[page].Found = append(p.Pages[page].Found, at)
			})
		}
		for reader, r := range p.Seconds {
			d.read(*p, r, errors, func(page int) bool { return p.Pages[page].Second == reader }, func(page int, at api.Place) {
				p.Pages[page].FoundAsWell = append(p.Pages[page].FoundAsWell, at)
			})
		}
	})
	return p, errors
}

// read calls finds with what a reader finds, who has some pages.
func (d *dice) read(p api.Proofs, r api.Reader, errors [][]api.Place, has func(page int) bool, finds func(page int, at api.Place)) {
	left := 0
	for page, l := range errors {
		if has(page) {
			left += len(l)
		}
	}
	least := (left*(100-r.Miss) + 99) / 100
	finding := least + one(d, 0, 0, d.roll(left-least+1))
	for page, l := range errors {
		for _, at := range l {
			if !has(page) {
				continue
			}
			if d.roll(left) < finding {
				finds(page, at)
				finding--
			}
			left--
		}
	}
}

// proofs is proofs with up to so many pages of up to two lines each, of up to so many words a line.
func (d *dice) proofs(pages, words int) api.Proofs {
	p := d.begun(d.text(3, 4, words), pages, 2)
	if d.roll(2) == 0 {
		return d.blind(p)
	}
	p, _ = d.honest(p)
	return p
}

// brief is proofs as they are told in a message: each line of the text is its number of words.
func brief(p api.Proofs) string {
	var words [][]int
	for _, c := range p.Text.Chapters {
		var l []int
		for _, line := range c.Lines {
			l = append(l, len(line))
		}
		words = append(words, l)
	}
	s := fmt.Sprintf("%v %v %v %+v", words, p.Firsts, p.Seconds, p.Pages)
	return s[:min(len(s), 1000)]
}

// input is arguments for all calls.
type input struct {
	p      api.Proofs
	page   int
	second bool
	reader int
	most   int
}

func (x input) String() string {
	return fmt.Sprint(brief(x.p), ", page ", x.page, ", second ", x.second, ", reader ", x.reader, ", most ", x.most)
}

// outcome is what a call returned: its results, and its error.
type outcome struct {
	call    string
	results []any
	e       api.Errno
}

// all is what all calls return.
func (x input) all() []outcome {
	var l []outcome
	add := func(call string, e api.Errno, results ...any) { l = append(l, outcome{call, results, e}) }
	add("Check", proof.Check(x.p))
	n, e := proof.Words(x.p, x.page)
	add("Words", e, n)
	found, e := proof.Found(x.p, x.page)
	add("Found", e, found)
	both, e := proof.Both(x.p, x.page)
	add("Both", e, both)
	n, e = proof.Bound(x.p, x.second, x.reader)
	add("Bound", e, n)
	s, e := proof.Guess(x.p, x.page)
	add("Guess", e, s)
	s, e = proof.Remain(x.p, x.page)
	add("Remain", e, s)
	s, e = proof.Total(x.p)
	add("Total", e, s)
	worst, e := proof.Worst(x.p)
	add("Worst", e, worst)
	firsts, seconds, e := proof.Why(x.p)
	add("Why", e, firsts, seconds)
	chief, e := proof.Chief(x.p, x.most)
	add("Chief", e, chief)
	return l
}

// wantErrors checks the errors of calls that are named, and that no call with an error has a result.
func wantErrors(t *testing.T, x input, e api.Errno, calls ...string) {
	t.Helper()
	for _, o := range x.all() {
		if slices.Contains(calls, o.call) && o.e != e {
			t.Errorf("%s of %v: %v, not %v", o.call, x, o.e, e)
		}
		if o.e != api.OK && slices.ContainsFunc(o.results, func(result any) bool { return !isZero(result) }) {
			t.Errorf("%s of %v: %v, with the results %v", o.call, x, o.e, o.results)
		}
	}
}

func isZero(x any) bool {
	v := reflect.ValueOf(x)
	return v.IsZero() || v.Kind() == reflect.Slice && v.Len() == 0
}

// wantList checks a list, and that its error is OK.
func wantList[T comparable](t *testing.T, what any, l []T, e api.Errno, want ...T) {
	t.Helper()
	if !slices.Equal(l, want) || e != api.OK {
		t.Errorf("%v: %v, %v, not %v", what, l, e, want)
	}
}

// wantOne checks a result that is no list, and that its error is OK.
func wantOne[T comparable](t *testing.T, what any, x T, e api.Errno, want T) {
	t.Helper()
	wantList(t, what, []T{x}, e, want)
}

// equal tells whether two results are the same; a nil list is as an empty one.
func equal(a, b any) bool { return isZero(a) && isZero(b) || reflect.DeepEqual(a, b) }
