package galley_test

import (
	"math"
	"reflect"
	"slices"
	"strings"
	"testing"

	"postil/api"
	"postil/galley"
)

// far is numbers outside of everything that is allowed, of either sign.
var far = []int{math.MinInt, math.MinInt + 1, math.MinInt32, -1, 1000, math.MaxInt32, math.MaxInt - 1, math.MaxInt}

// noWords is texts that are no words.
var noWords = []string{"", "Sea", "the sea", "sea ", " sea", "`", "{", "é", "\x00", "s\xff", "abcdefghijklm", strings.Repeat("a", 300)}

// long is a word of as many letters as there may be.
const long = "abcdefghijkl"

// calls is the names of all calls with a galley, and those of them that have breaks.
var (
	calls     = []string{"Check", "Total", "Ends", "Waste", "Break", "Proof", "At", "Columns", "Torn", "Fix"}
	ofBreaks  = []string{"Waste", "At", "Columns", "Torn", "Fix"}
	ofGalleys = []string{"Check", "Total", "Ends", "Break", "Proof"}
)

// blocks is blocks of so many lines each, under words that come again.
func blocks(lines ...int) []api.Block {
	var l []api.Block
	for i, n := range lines {
		l = append(l, api.Block{Word: []string{"sea", "old", long, "a"}[i%4], Lines: n})
	}
	return l
}

func galleyOf(height int, lines ...int) api.Galley {
	return api.Galley{Height: height, Blocks: blocks(lines...)}
}

// sample is the galley of the chapter's examples.
func sample() api.Galley {
	return api.Galley{Height: 5, Blocks: []api.Block{{Word: "and", Lines: 3}, {Word: "is", Lines: 2}, {Word: "old", Lines: 6}, {Word: "sea", Lines: 4}}}
}

// book is a text of chapters with Ids from 7 down, whose lines are parted by strokes.
func book(chapters ...string) api.Text {
	var t api.Text
	for i, s := range chapters {
		c := api.Chapter{Id: 7 - i}
		for line := range strings.SplitSeq(s, "/") {
			c.Lines = append(c.Lines, strings.Fields(line))
		}
		t.Chapters = append(t.Chapters, c)
	}
	return t
}

// allWords is the words of a text, as they come.
func allWords(t api.Text) []string {
	var l []string
	for _, c := range t.Chapters {
		l = append(l, slices.Concat(c.Lines...)...)
	}
	return l
}

// line is the block of a line, and how many lines of this block are before it.
type line struct{ block, before int }

// lines is all lines of a galley, one behind the other.
func lines(g api.Galley) []line {
	var l []line
	for i, b := range g.Blocks {
		for n := range b.Lines {
			l = append(l, line{i, n})
		}
	}
	return l
}

func total(g api.Galley) int {
	n := 0
	for _, b := range g.Blocks {
		n += b.Lines
	}
	return n
}

// mayEnd tells whether a column may end behind so many lines: the word of the document.
func mayEnd(g api.Galley, n int) bool {
	if n < 1 || n > total(g) {
		return false
	}
	last := lines(g)[n-1]
	among := last.before + 1
	behind := g.Blocks[last.block].Lines - among
	return behind == 0 || among >= 2 && behind >= 2
}

func endsOf(g api.Galley) []int {
	var l []int
	for n := range total(g) + 1 {
		if mayEnd(g, n) {
			l = append(l, n)
		}
	}
	return l
}

// lists is all lists of where columns end that lead from behind so many lines to behind so many, in order.
func lists(g api.Galley, from, to int) [][]int {
	return listsOf(endsOf(g), g.Height, from, to)
}

func listsOf(ends []int, height, from, to int) [][]int {
	if from == to {
		return [][]int{nil}
	}
	var l [][]int
	for _, end := range ends {
		if end <= from || end > from+height || end > to {
			continue
		}
		for _, more := range listsOf(ends, height, end, to) {
			l = append(l, append([]int{end}, more...))
		}
	}
	return l
}

// breakings is all valid breakings, in order.
func breakings(g api.Galley) [][]int { return lists(g, 0, total(g)) }

// counted is the waste of columns that begin behind so many lines, all of them counted.
func counted(height, from int, breaks []int) int {
	sum := 0
	for _, end := range breaks {
		sum += (height - (end - from)) * (height - (end - from))
		from = end
	}
	return sum
}

// wasteOf is the waste of columns that begin behind so many lines: the last one of a galley has none.
func wasteOf(g api.Galley, from int, breaks []int) int {
	if n := len(breaks); n > 0 && breaks[n-1] == total(g) {
		return counted(g.Height, from, breaks[:n-1])
	}
	return counted(g.Height, from, breaks)
}

// leastOf is the first of some lists that has the least waste, and this waste.
func leastOf(g api.Galley, from int, l [][]int) ([]int, int) {
	best := l[0]
	for _, breaks := range l {
		if wasteOf(g, from, breaks) < wasteOf(g, from, best) {
			best = breaks
		}
	}
	return best, wasteOf(g, from, best)
}

// columnOf is the column of a line, and its row in it.
func columnOf(breaks []int, line int) (column, row int) {
	begin := 0
	for i, end := range breaks {
		if line < end {
			return i, line - begin
		}
		begin = end
	}
	return -1, -1
}

// begin is how many lines there are before a block.
func begin(g api.Galley, block int) int { return total(api.Galley{Blocks: g.Blocks[:block]}) }

// columnsOf is the columns of the first line of a block, and of its last one.
func columnsOf(g api.Galley, breaks []int, block int) (first, last int) {
	first, _ = columnOf(breaks, begin(g, block))
	last, _ = columnOf(breaks, begin(g, block+1)-1)
	return first, last
}

// changed is a galley in which a block has another number of lines.
func changed(g api.Galley, block, lines int) api.Galley {
	g.Blocks = slices.Clone(g.Blocks)
	g.Blocks[block].Lines = lines
	return g
}

// smallGalleys calls f with all galleys of up to so many blocks, of up to so many lines each.
func smallGalleys(blocks, most int, f func(g api.Galley)) {
	all := [][]int{nil}
	for begun := all; blocks > 0; blocks-- {
		var longer [][]int
		for _, l := range begun {
			for n := range most {
				longer = append(longer, append(slices.Clone(l), n+1))
			}
		}
		all, begun = append(all, longer...), longer
	}
	for _, l := range all[1:] {
		for height := 4; height <= 7; height++ {
			f(galleyOf(height, l...))
		}
	}
}

// dice are numbers that look like chance, the same ones in each run.
type dice uint64

// roll is a number below n.
func (d *dice) roll(n int) int {
	*d = *d*6364136223846793005 + 1442695040888963407
	return int(uint64(*d) >> 33 % uint64(n))
}

// one is one of several things.
func one[T any](d *dice, l ...T) T { return l[d.roll(len(l))] }

// galley is a galley of up to so many blocks.
func (d *dice) galley(most int) api.Galley {
	g := api.Galley{Height: one(d, 4, 4, 5, 6, 7, 10, 19, 20, 21, 39, 40)}
	longest := one(d, 3, 6, 20)
	for range 1 + d.roll(most) {
		g.Blocks = append(g.Blocks, api.Block{Word: one(d, "a", "b", "ab", "sea", long), Lines: 1 + d.roll(longest)})
	}
	return g
}

// smallGalley is a galley of up to 4 blocks that has up to so many lines.
func (d *dice) smallGalley(lines int) api.Galley {
	for {
		if g := d.galley(4); total(g) <= lines {
			return g
		}
	}
}

// breaks is a breaking of a galley.
func (d *dice) breaks(g api.Galley) []int {
	var l []int
	ends := endsOf(g)
	for last := 0; last < total(g); last = l[len(l)-1] {
		var next []int
		for _, end := range ends {
			if end > last && end <= last+g.Height {
				next = append(next, end)
			}
		}
		l = append(l, one(d, next...))
	}
	return l
}

// text is a text of up to 45 words, which come often.
func (d *dice) text() api.Text {
	var chapters []string
	for range 1 + d.roll(3) {
		var lines []string
		for range 1 + d.roll(3) {
			var line []string
			for range 1 + d.roll(5) {
				line = append(line, one(d, "a", "b", "ab", "ba", "sea", "old", "z", long))
			}
			lines = append(lines, strings.Join(line, " "))
		}
		chapters = append(chapters, strings.Join(lines, "/"))
	}
	return book(chapters...)
}

// input is arguments for all calls.
type input struct {
	g                  api.Galley
	breaks             []int
	line, block, lines int
	t                  api.Text
	c                  api.Cut
	height             int
}

// outcome is what a call returned: its results, and its error.
type outcome struct {
	call    string
	results []any
	e       api.Errno
}

// all is what all calls return.
func (x input) all() []outcome {
	var l []outcome
	add := func(call string, e api.Errno, results ...any) { l = append(l, outcome{call, results, e}) }
	add("Check", galley.Check(x.g))
	g, e := galley.Set(x.t, x.c, x.height)
	add("Set", e, g)
	n, e := galley.Total(x.g)
	add("Total", e, n)
	ends, e := galley.Ends(x.g)
	add("Ends", e, ends)
	n, e = galley.Waste(x.g, x.breaks)
	add("Waste", e, n)
	breaks, e := galley.Break(x.g)
	add("Break", e, breaks)
	proof, e := galley.Proof(x.g)
	add("Proof", e, proof)
	column, row, e := galley.At(x.g, x.breaks, x.line)
	add("At", e, column, row)
	first, last, e := galley.Columns(x.g, x.breaks, x.block)
	add("Columns", e, first, last)
	torn, e := galley.Torn(x.g, x.breaks)
	add("Torn", e, torn)
	g, breaks, from, to, e := galley.Fix(x.g, x.breaks, x.block, x.lines)
	add("Fix", e, g, breaks, from, to)
	return l
}

// wantErrors checks the errors of calls that are named, and that no call with an error has a result.
func wantErrors(t *testing.T, x input, e api.Errno, calls ...string) {
	t.Helper()
	for _, o := range x.all() {
		if slices.Contains(calls, o.call) && o.e != e {
			t.Errorf("%s of %+v: %v, not %v", o.call, x, o.e, e)
		}
		if o.e != api.OK && slices.ContainsFunc(o.results, func(result any) bool { return !isZero(result) }) {
			t.Errorf("%s of %+v: %v, with the results %v", o.call, x, o.e, o.results)
		}
	}
}

func isZero(x any) bool {
	v := reflect.ValueOf(x)
	if g, ok := x.(api.Galley); ok {
		return g.Height == 0 && len(g.Blocks) == 0
	}
	return v.IsZero() || v.Kind() == reflect.Slice && v.Len() == 0
}

// wantList checks a list, and that its error is OK.
func wantList[T comparable](t *testing.T, what any, l []T, e api.Errno, want ...T) {
	t.Helper()
	if !slices.Equal(l, want) || e != api.OK {
		t.Errorf("%+v: %v, %v, not %v", what, l, e, want)
	}
}

// wantOne checks a result that is no list, and that its error is OK.
func wantOne[T comparable](t *testing.T, what any, x T, e api.Errno, want T) {
	t.Helper()
	wantList(t, what, []T{x}, e, want)
}

// wantGalley checks a galley, and that its error is OK.
func wantGalley(t *testing.T, what any, g api.Galley, e api.Errno, want api.Galley) {
	t.Helper()
	wantOne(t, what, g.Height, e, want.Height)
	wantList(t, what, g.Blocks, e, want.Blocks...)
}
