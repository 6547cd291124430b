package hand_test

import (
	"slices"
	"strings"
	"testing"

	"postil/api"
	"postil/hand"
)

func skipped(line int) api.Fault  { return api.Fault{Kind: api.FaultSkip, Line: line} }
func repeated(line int) api.Fault { return api.Fault{Kind: api.FaultRepeat, Line: line} }
func misread(line, words int) api.Fault {
	return api.Fault{Kind: api.FaultRead, Line: line, Words: words}
}

// written is a round of one part, which begins behind two other lines, and its sheet.
func written(part string, sheet string) api.Round {
	n := len(lines(part))
	return parts(book("x/y", part, "z"), []api.Share{share(2, 1+n, 0, 0)}, back(sheet))
}

// P5.5: the faults that cost the least, and of several lists the one in which a repeat comes before a line that is written, and this before one that is skipped. Lines are told by their numbers in the text: the part begins with the line 2.
func TestExplain(t *testing.T) {
	for _, x := range []struct {
		part, sheet string
		want        []api.Fault
	}{
		{"a", "a", nil},
		{"a b/c", "a b/c", nil},
		// Lines that are left out.
		{"a", "", []api.Fault{skipped(2)}},
		{"a/b/c", "", []api.Fault{skipped(2), skipped(3), skipped(4)}},
		{"a/b/c", "b/c", []api.Fault{skipped(2)}},
		{"a/b/c", "a/c", []api.Fault{skipped(3)}},
		{"a/b/c", "a/b", []api.Fault{skipped(4)}},
		{"a b/c", "c", []api.Fault{skipped(2)}},
		{"a/a", "a", []api.Fault{skipped(3)}},
		{"a/a/b", "a/b", []api.Fault{skipped(3)}},
		{"b/a/a", "b/a", []api.Fault{skipped(4)}},
		// Lines that are there once more.
		{"a", "a/a", []api.Fault{repeated(2)}},
		{"a/b", "a/a/b", []api.Fault{repeated(2)}},
		{"a/b", "a/b/b", []api.Fault{repeated(3)}},
		{"a/b", "a/a/a/b/b", []api.Fault{repeated(2), repeated(2), repeated(3)}},
		{"a/a", "a/a/a", []api.Fault{repeated(2)}},
		{"a/a/a", "a/a/a/a/a", []api.Fault{repeated(2), repeated(2)}},
		{"a", strings.Repeat("a/", 29) + "a", slices.Repeat([]api.Fault{repeated(2)}, 29)},
		// Lines that are read wrong.
		{"a", "b", []api.Fault{misread(2, 1)}},
		{"a b c", "b c d", []api.Fault{misread(2, 2)}},
		{"a b c", "a c", []api.Fault{misread(2, 1)}},
		{"a c", "a b c", []api.Fault{misread(2, 1)}},
		{"a b c", "c b a", []api.Fault{misread(2, 2)}},
		{"a", "b c d e f g h i j k", []api.Fault{misread(2, 10)}},
		{"b c d e f g h i j k", "a", []api.Fault{misread(2, 10)}},
		{"a/b", "b/a", []api.Fault{misread(2, 1), misread(3, 1)}},
		// A line that is read wrong, and repeated as it is.
		{"a", "b/a", []api.Fault{misread(2, 1), repeated(2)}},
		{"a", "b/a/a", []api.Fault{misread(2, 1), repeated(2), repeated(2)}},
		// All together.
		{"a/b b/c d", "a/a/c e", []api.Fault{repeated(2), skipped(3), misread(4, 1)}},
		{"a/b/c d", "a/a/c e", []api.Fault{misread(3, 1), misread(4, 1)}},
		{"a/b/c d", "a/a/a/c d", []api.Fault{repeated(2), misread(3, 1)}},
		{"a b c/d", "d/a b c", []api.Fault{misread(2, 3), repeated(2), skipped(3)}},
		{"a b c d/e f g h/a b c d", "e f g h/a b c d/a b c d", []api.Fault{skipped(2), repeated(4)}},
		// A repeat goes first, then a line that is written.
		{"a/b c", "a/a", []api.Fault{repeated(2), skipped(3)}},
		{"a/b", "a/a", []api.Fault{misread(3, 1)}},
		{"a/b", "c", []api.Fault{misread(2, 1), skipped(3)}},
		{"a/b", "a/a/a", []api.Fault{repeated(2), misread(3, 1)}},
		{"a/a/b c", "a/a/a", []api.Fault{repeated(2), skipped(4)}},
		{"a b/c", "d e", []api.Fault{misread(2, 2), skipped(3)}},
		{"a b/c", "c d", []api.Fault{skipped(2), misread(3, 1)}},
	} {
		l, e := hand.Explain(written(x.part, x.sheet), 0)
		wantList(t, x, l, e, x.want...)
	}
}

// P5.5 and P5.13: a line has the number that it has in the text, over all chapters, wherever its part begins: Line returns the line of each fault.
func TestFaultsByNumbersOfLines(t *testing.T) {
	text := book("a/b c", "d", "e f/g/h", "i")
	many := len(linesOf(text))
	for from := range many {
		for to := from; to < many; to++ {
			r := parts(text, []api.Share{share(from, to, 0, 0)}, back(""))
			var skips, repeats, reads []api.Fault
			doubled, other := back(""), back("")
			for n := from; n <= to; n++ {
				line, e := hand.Line(r, n)
				if e != api.OK {
					t.Fatal(n, e)
				}
				skips, repeats, reads = append(skips, skipped(n)), append(repeats, repeated(n)), append(reads, misread(n, len(line)))
				doubled.Lines = append(doubled.Lines, line, line)
				other.Lines = append(other.Lines, slices.Repeat([]string{"z"}, len(line)))
			}
			l, e := hand.Explain(r, 0)
			wantList(t, r, l, e, skips...)
			l, e = hand.Explain(with(r, func(r *api.Round) { r.Sheets[0] = doubled }), 0)
			wantList(t, r, l, e, repeats...)
			l, e = hand.Explain(with(r, func(r *api.Round) { r.Sheets[0] = other }), 0)
			wantList(t, r, l, e, reads...)
		}
	}
}

// P5.5: the second of two parts that share a line tells the shared line by the same number as the first one.
func TestFaultsOfSharedLines(t *testing.T) {
	r := parts(book("a/b", "c/d"), []api.Share{share(0, 2, 0, 0), share(2, 3, 0, 0)}, back("a/b/x"), back("x/d"))
	for part := range 2 {
		l, e := hand.Explain(r, part)
		wantList(t, part, l, e, misread(2, 1))
	}
}

// P5.5: what is not back, and what no faults explain.
func TestNothingExplains(t *testing.T) {
	for _, x := range [][2]string{
		{"a", "b/c"},
		{"a", "a/b"},
		{"a", "a/a/b"},
		{"a", "a/b/a"},
		{"a", "a/a a"},
		{"a", "b/b"},
		{"a/b", "c/c/c"},
		{"a/b", "a/b/a"},
		// A line is repeated just behind itself.
		{"a/b", "c/d/a"},
		{"a b c/d", "d/d/a b c"},
	} {
		wantErrors(t, input{r: written(x[0], x[1])}, api.ErrNone, "Explain")
	}
	r := written("a", "")
	r.Sheets[0].Back = false
	wantErrors(t, input{r: r}, api.ErrNone, "Explain")
}

// ways is all lists of faults that explain what is left of a part from a line of the text on, in the order in which they are taken: all is tried. The text is that up to the end of the part.
func ways(text, sheet [][]string, line int, isWritten bool) [][]api.Fault {
	if line == len(text) && len(sheet) == 0 {
		return [][]api.Fault{nil}
	}
	var l [][]api.Fault
	add := func(rest [][]api.Fault, faults ...api.Fault) {
		for _, more := range rest {
			l = append(l, slices.Concat(faults, more))
		}
	}
	if isWritten && len(sheet) > 0 && slices.Equal(text[line-1], sheet[0]) {
		add(ways(text, sheet[1:], line, true), repeated(line-1))
	}
	if line < len(text) && len(sheet) > 0 {
		if n := apart(text[line], sheet[0]); n > 0 {
			add(ways(text, sheet[1:], line+1, true), misread(line, n))
		} else {
			add(ways(text, sheet[1:], line+1, true))
		}
	}
	if line < len(text) {
		add(ways(text, sheet, line+1, false), skipped(line))
	}
	return l
}

// costOf is what faults cost.
func costOf(l []api.Fault) int {
	n := 0
	for _, f := range l {
		n += f.Words
		if f.Kind != api.FaultRead {
			n++
		}
	}
	return n
}

// P5.5: of all lists that explain a sheet the first one that costs the least is told, of sheets of any lines, and of parts that begin and end anywhere in the text.
func TestExplainByAllWays(t *testing.T) {
	d := dice(14)
	some, none := 0, 0
	for range 3000 {
		text := d.text(6)
		lines := linesOf(text)
		from := d.roll(len(lines))
		to := min(from+d.roll(4), len(lines)-1)
		sheet := api.Sheet{Back: true}
		for range d.roll(6) {
			sheet.Lines = append(sheet.Lines, slices.Clone(one(&d, d.line(2), lines[from+d.roll(to-from+1)])))
		}
		r := parts(text, []api.Share{share(from, to, 0, 0)}, sheet)
		all := ways(lines[:to+1], sheet.Lines, from, false)
		if len(all) == 0 {
			wantErrors(t, input{r: r}, api.ErrNone, "Explain")
			none++
			continue
		}
		l, e := hand.Explain(r, 0)
		wantList(t, r, l, e, slices.MinFunc(all, func(a, b []api.Fault) int { return costOf(a) - costOf(b) })...)
		some++
	}
	if some < 1000 || none < 100 {
		t.Error(some, none)
	}
}

// explains tells whether a part written with faults is its sheet.
func explains(r api.Round, part int, faults []api.Fault) bool {
	s, sheet := r.Shares[part], r.Sheets[part].Lines
	next := func(kind uint8, line int) (api.Fault, bool) {
		if len(faults) == 0 || faults[0].Kind != kind || faults[0].Line != line {
			return api.Fault{}, false
		}
		f := faults[0]
		faults = faults[1:]
		return f, true
	}
	for n, line := range linesOf(r.Text) {
		if n < s.From || n > s.To {
			continue
		}
		if f, ok := next(api.FaultSkip, n); ok {
			if f.Words != 0 {
				return false
			}
			continue
		}
		f, _ := next(api.FaultRead, n)
		if len(sheet) == 0 || apart(line, sheet[0]) != f.Words {
			return false
		}
		sheet = sheet[1:]
		for {
			f, ok := next(api.FaultRepeat, n)
			if !ok {
				break
			}
			if f.Words != 0 || len(sheet) == 0 || !slices.Equal(sheet[0], line) {
				return false
			}
			sheet = sheet[1:]
		}
	}
	return len(sheet) == 0 && len(faults) == 0
}

// N5 and P5.10: faults that are told explain the sheet, and cost no more than those that were made; a sheet without a fault has none.
func TestFaultsThatWereMade(t *testing.T) {
	d := dice(15)
	made, less := 0, 0
	for range 1500 {
		r, costs := d.round(8)
		for part := range r.Shares {
			if !r.Sheets[part].Back {
				wantErrors(t, input{r: r, part: part}, api.ErrNone, "Explain")
				continue
			}
			l, e := hand.Explain(r, part)
			if e != api.OK || costOf(l) > costs[part] || !explains(r, part, l) {
				t.Errorf("%+v, %d: %v, %v", r, part, l, e)
			}
			if costs[part] > 0 {
				made++
			}
			if costOf(l) < costs[part] {
				less++
			}
		}
	}
	if made < 500 || less < 50 {
		t.Error(made, less)
	}
}

// P5.5 and R7: a part that has all lines of the longest text, and the longest sheet.
func TestLongestSheet(t *testing.T) {
	text := api.Text{}
	for i := range 6 {
		text.Chapters = append(text.Chapters, api.Chapter{Id: i, Lines: slices.Repeat([][]string{slices.Repeat([]string{"a"}, 10)}, 10)})
	}
	r := parts(text, []api.Share{share(0, 59, 0, 0)}, api.Sheet{Back: true})
	var want []api.Fault
	for n := range 30 {
		r.Sheets[0].Lines = append(r.Sheets[0].Lines, slices.Repeat([]string{"b"}, 10))
		want = append(want, misread(n, 10))
	}
	for n := range 30 {
		want = append(want, skipped(30+n))
	}
	l, e := hand.Explain(r, 0)
	wantList(t, "longest", l, e, want...)
}
