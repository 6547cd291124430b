package tome_test

import (
	"strings"
	"testing"

	"postil/api"
	"postil/slip"
	"postil/stem"
	"postil/tome"
)

// P10.4: the lines of heads, with and without Marks, contexts, references and doubt.
func TestPrint(t *testing.T) {
	r := bare("a abcdefghijkl", "sea old", "b", "old")
	r.Copies = []api.Copy{copyOf(1, reading(api.ReadOther, place(2, 0, 0), "c"), reading(api.ReadOther, place(3, 0, 0), "cold"))}
	r.Lexicon.Decisions = []api.Decision{form(1, "old", head("age", api.MarkVerb)), form(2, "b", head("age", api.MarkVerb)), only(3, place(0, 0, 0), head("age", api.MarkOther))}
	r.Edition = edition(1, stretch(1, 0, 1, 998, 999), stretch(2, 0, 1, 12, 345))
	for _, x := range []struct {
		h    api.Head
		want []string
	}{
		{head("age", 2), []string{"age/2", "b 1", "12.345.1?: [b]", "old 2", "998.999.2: sea [old]", "-?: [old]"}},
		{head("age", 3), []string{"age/3", "a 1", "-: [a]"}},
		{head("abcdefghijkl", 0), []string{"abcdefghijkl", "abcdefghijkl 1", "-: [abcdefghijkl]"}},
		{head("sea", 0), []string{"sea", "sea 1", "998.999.1: [sea] old"}},
	} {
		l, e := tome.Print(r, x.h)
		wantList(t, x.h, l, e, x.want...)
	}
	l, e := tome.Print(sample(), head("see", api.MarkVerb))
	wantList(t, "see", l, e, "see/2", "sea 1", "-: sea and [sea]")
	l, e = tome.Print(sample(), head("the", 0))
	wantList(t, "the", l, e, "the", "the 2", "1.1.1: [the] sea is old", "2.5.2?: is old old [the]")
}

// P10.4: as many rows as there are, in numbers of more than one digit.
func TestPrintOfManyRows(t *testing.T) {
	line := strings.Repeat("a ", 10)
	r := bare(line + "/" + line)
	r.Edition = edition(0, stretch(0, 0, 2, 10, 99))
	r.Cut = api.Cut{Width: 12, Side: api.SideLeft}
	l, e := tome.Print(r, head("a", 0))
	if e != api.OK || len(l) != 22 || l[0] != "a" || l[1] != "a 20" || l[2] != "10.99.1: [a] a a a a a" || l[21] != "10.100.10: a a a a a [a]" {
		t.Errorf("%q, %v", l, e)
	}
}

// P10.4: the lines of all heads of any records, by the word of the document.
func TestPrintOfAnyRecords(t *testing.T) {
	d := dice(9)
	lines := 0
	for range 300 {
		r := d.records(3, 20)
		for _, x := range volumeOf(r).Entries {
			l, e := tome.Print(r, x.Head)
			wantList(t, []any{r, x.Head}, l, e, linesOf(r, x)...)
			lines += len(l)
		}
	}
	if lines < 3000 {
		t.Error(lines)
	}
}

// P10.13: the lines of a head have each slip of its places once, in order.
func TestLinesHaveTheirSlips(t *testing.T) {
	d := dice(10)
	for range 200 {
		r := d.records(2, 20)
		heads, _ := stem.Heads(r.Text, r.Lexicon)
		for _, h := range heads {
			l, e := tome.Print(r, h)
			var got, want []string
			for _, line := range l {
				if _, context, is := strings.Cut(line, ": "); is {
					got = append(got, context)
				}
			}
			x, _ := tome.Of(r, h)
			for _, s := range spots(volume(x)) {
				made, _ := slip.Make(r.Text, r.Cut, s.row.At)
				want = append(want, strings.Join(append(append(strings.Fields(made.Before), "["+made.Word+"]"), strings.Fields(made.After)...), " "))
			}
			wantList(t, []any{r, h}, got, e, want...)
			under, _ := stem.Under(r.Text, r.Lexicon, h)
			wantOne(t, []any{r, h}, len(got), e, len(under))
		}
	}
}
