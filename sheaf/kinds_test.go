package sheaf_test

import (
	"slices"
	"strings"
	"testing"

	"postil/api"
	"postil/sheaf"
)

// wantKind checks what is read of rows of a kind, or that there is this error, and nothing is read.
func wantKind(t *testing.T, k kind, text api.Text, l []string, want api.Errno) {
	t.Helper()
	x, e := k.read(text, l)
	if e != want {
		t.Errorf("%s of %.2000q: %v, not %v", k.name, l, e, want)
		return
	}
	if e != api.OK {
		wantAny(t, l, x, api.OK, zero(x))
		return
	}
	wantAny(t, l, x, e, k.of(l))
}

// zero is the zero value of the type of what rows are of.
func zero(x any) any {
	switch x.(type) {
	case api.Text:
		return api.Text{}
	case api.Copy:
		return api.Copy{}
	case []api.Slip:
		return []api.Slip(nil)
	}
	return api.Lexicon{}
}

// errorOf is the error that the call of a kind has for rows, with a valid text.
func errorOf(k kind, text api.Text, l []string) api.Errno {
	if !areRows(l...) {
		return api.ErrRows
	}
	if !k.is(l) {
		return api.ErrKind
	}
	return k.error(text, l)
}

// A chapter and a line, and words of as many letters as there may be on a side of a slip.
const (
	chapter = "chapter 7"
	line    = "line old the sea"
	side    = "abcdefghijkl abcdefghijkl abcdefghijkl abcdefghijkl abcdefghijkl abcdefghijkl ab"
)

// P11.3: the rows of a text.
func TestText(t *testing.T) {
	long := strings.Repeat(" abcdefghijkl", 10)
	for _, x := range []struct {
		text api.Text
		want []string
	}{
		{sample(), rows("chapter 7", "line the sea is old", "line old the sea", "chapter 3", "line sea and sea")},
		{api.Text{Chapters: []api.Chapter{{Id: 0, Lines: [][]string{{"a"}}}, {Id: 9999, Lines: [][]string{{"line"}, {"chapter", "z"}}}}}, rows("chapter 0", "line a", "chapter 9999", "line line", "line chapter z")},
		{book(strings.Repeat(long+"/", 9)+long, "a", "a", "a", "a", "a"), append(append(rows("chapter 7"), slices.Repeat(rows("line"+long), 10)...), "chapter 6", "line a", "chapter 5", "line a", "chapter 4", "line a", "chapter 3", "line a", "chapter 2", "line a")},
	} {
		l, e := sheaf.OfText(x.text)
		wantList(t, x.text, l, e, x.want...)
		text, e := sheaf.ToText(l)
		wantAny(t, l, text, e, x.text)
	}
}

// P11.3: leaf.Check's error of a text.
func TestErrorsOfText(t *testing.T) {
	same := sample()
	same.Chapters[1].Id = 7
	bad := []api.Text{{}, same, book("the Sea"), book("a b c d e f g h i j k"), book("a/a/a/a/a/a/a/a/a/a/a"), book("a", "a", "a", "a", "a", "a", "a"), book("abcdefghijklm"), book(""), book("a//a")}
	for _, n := range far {
		x := sample()
		x.Chapters[0].Id = n
		bad = append(bad, x)
	}
	for _, x := range bad {
		if l, e := sheaf.OfText(x); len(l) != 0 || e != api.ErrText {
			t.Errorf("%+v: %q, %v", x, l, e)
		}
		// It comes ahead of the errors of rows, of a copy, and of a lexicon.
		for _, l := range [][]string{nil, {""}, {"nothing"}, {"copy 4"}, {"copy 4", "omit 9 9 9"}, {"void 1 1"}, rowsOf(cold()), rowsOf(decided())} {
			for _, k := range []kind{kinds[1], kinds[3]} {
				wantKind(t, k, x, l, api.ErrText)
			}
		}
		for _, c := range []api.Copy{cold(), copyOf(-1)} {
			if l, e := sheaf.OfCopy(x, c); len(l) != 0 || e != api.ErrText {
				t.Errorf("%+v: %q, %v", x, l, e)
			}
		}
		for _, y := range []api.Lexicon{decided(), {Rules: []api.Rule{{}}}} {
			if l, e := sheaf.OfLexicon(x, y); len(l) != 0 || e != api.ErrText {
				t.Errorf("%+v: %q, %v", x, l, e)
			}
		}
	}
	for _, l := range [][]string{nil, {}, {"chapter 7"}, {"chapter 7", "chapter 3", "line a"}, {"chapter 7", "line a", "chapter 3"}, {"chapter 7", "line a", "chapter 7", "line a"}, {"chapter 7", "line a b c d e f g h i j k"}, append(rows("chapter 7"), slices.Repeat(rows("line a"), 11)...), rows("chapter 1", "line a", "chapter 2", "line a", "chapter 3", "line a", "chapter 4", "line a", "chapter 5", "line a", "chapter 6", "line a", "chapter 7", "line a"), append(rows("chapter 7"), slices.Repeat(rows("line a"), 199)...)} {
		wantKind(t, kinds[0], api.Text{}, l, api.ErrText)
	}
}

// P11.3: ErrKind of rows that are none of a text.
func TestKindOfText(t *testing.T) {
	k := kinds[0]
	for _, l := range [][]string{{chapter}, {chapter, line}, {chapter, line, line, chapter, line}, {"chapter 0", "line a"}, {"chapter 9999", "line a"}} {
		if !k.is(l) {
			t.Errorf("%q", l)
		}
	}
	for _, l := range [][]string{{line}, {"chapter"}, {"line"}, {"chapter 7 8"}, {"chapter 7 a"}, {chapter, "line"}, {chapter, "line 7"}, {" " + chapter, line}, {chapter + " ", line}, {"chapter  7", line}, {chapter, " " + line}, {chapter, line + " "}, {chapter, "line old  the"}, {"Chapter 7", line}, {"chapters 7", line}, {"chapter7", line}, {chapter, "lines old"}, {chapter, "Line old"}, {chapter, line, "copy 4"}, {chapter, line, "slip 0 0 0 a"}, {chapter, "before a"}, {chapter, line, " "}, {"7", line}, {chapter, "old the sea"}, {"chapter-7", line}} {
		wantKind(t, k, sample(), l, api.ErrKind)
	}
	for _, s := range noWords {
		wantKind(t, k, sample(), rows(chapter, "line "+s), api.ErrKind)
		wantKind(t, k, sample(), rows(chapter, line+" "+s), api.ErrKind)
		wantKind(t, k, sample(), rows(chapter, "line "+s+" sea"), api.ErrKind)
	}
	for _, s := range noNumbers {
		wantKind(t, k, sample(), rows("chapter "+s, line), api.ErrKind)
	}
}

// P11.4: the rows of a copy.
func TestCopy(t *testing.T) {
	for _, x := range []struct {
		c    api.Copy
		want []string
	}{
		{cold(), rows("copy 4", "other 0 0 3 cold", "omit 0 1 1", "put 1 0 3 salt")},
		{copyOf(0), rows("copy 0")},
		{copyOf(9999, reading(api.ReadPut, place(0, 0, 0), "omit"), reading(api.ReadPut, place(0, 0, 0), "put"), reading(api.ReadOther, place(0, 0, 0), "other"), reading(api.ReadPut, place(0, 0, 4), "abcdefghijkl")), rows("copy 9999", "put 0 0 0 omit", "put 0 0 0 put", "other 0 0 0 other", "put 0 0 4 abcdefghijkl")},
	} {
		l, e := sheaf.OfCopy(sample(), x.c)
		wantList(t, x.c, l, e, x.want...)
		c, e := sheaf.ToCopy(sample(), l)
		wantAny(t, l, c, e, x.c)
	}
}

// P11.4: leaf.CheckCopy's error of a copy.
func TestErrorsOfCopy(t *testing.T) {
	many := slices.Repeat([]api.Reading{reading(api.ReadOther, place(0, 0, 0), "a")}, 21)
	bad := []api.Copy{copyOf(4, reading(api.ReadOther, place(0, 0, 3), "old")), copyOf(4, reading(4, place(0, 0, 3), "cold")), copyOf(4, reading(0, place(0, 0, 3), "cold")), copyOf(4, reading(255, place(0, 0, 3), "cold")), copyOf(4, reading(api.ReadOmit, place(0, 0, 3), "cold")), copyOf(4, reading(api.ReadPut, place(0, 0, 3), "")), copyOf(4, reading(api.ReadOther, place(0, 0, 3), "Cold")), copyOf(4, reading(api.ReadOmit, place(0, 0, 1), ""), reading(api.ReadOmit, place(0, 0, 0), "")), copyOf(4, many...)}
	for _, n := range far {
		bad = append(bad, copyOf(n), copyOf(4, reading(api.ReadOmit, place(n, 0, 0), "")), copyOf(4, reading(api.ReadOmit, place(0, n, 0), "")), copyOf(4, reading(api.ReadOmit, place(0, 0, n), "")))
	}
	for _, c := range bad {
		if l, e := sheaf.OfCopy(sample(), c); len(l) != 0 || e != api.ErrCopy {
			t.Errorf("%+v: %q, %v", c, l, e)
		}
	}
	for _, l := range [][]string{{"other 0 0 3 old"}, {"omit 0 0 1", "omit 0 0 0"}, {"omit 0 0 1", "omit 0 0 1"}, {"omit 0 0 4"}, {"omit 2 0 0"}, {"omit 0 2 0"}, {"omit 9999 9999 9999"}, {"put 0 0 5 a"}, {"omit 1 0 0", "omit 1 0 1", "omit 1 0 2"}, slices.Repeat(rows("put 0 0 0 a"), 7), slices.Repeat(rows("put 0 0 0 a"), 21), slices.Repeat(rows("put 0 0 0 a"), 199)} {
		wantKind(t, kinds[1], sample(), append(rows("copy 4"), l...), api.ErrCopy)
	}
}

// P11.4: ErrKind of rows that are none of a copy.
func TestKindOfCopy(t *testing.T) {
	k := kinds[1]
	for _, l := range [][]string{nil, {}, {"omit 0 0 1"}, {"copy"}, {"copy 4 4"}, {"copy a"}, {"copy 4", "copy 4"}, {"copy 4", "omit 0 0 1", "copy 4"}, {"omit 0 0 1", "copy 4"}, {"copy 4 "}, {" copy 4"}, {"copy  4"}, {"Copy 4"}, {"chapter 4"}} {
		wantKind(t, k, sample(), l, api.ErrKind)
	}
	for _, row := range []string{"omit", "omit 0", "omit 0 0", "omit 0 0 1 a", "omit 0 0 1 1", "omit 0 0 1 ", "put 0 0 1", "put 0 0 1 a b", "put 0 0 1 1", "put a 0 0 1", "put 0 0 a", "other 0 0 1", "other 0 0 1 a b", "other", "others 0 0 1 a", "Other 0 0 1 a", "line a", "chapter 7", "slip 0 0 0 a", " omit 0 0 1", "omit  0 0 1", "omit 0 0  1", "put 0 0 1  a", "0 0 1", "2 0 0 1 a", "none 0 0 1"} {
		wantKind(t, k, sample(), rows("copy 4", row), api.ErrKind)
		wantKind(t, k, sample(), rows("copy 4", "omit 9 9 9", row), api.ErrKind)
		wantKind(t, k, sample(), rows("copy 4", row, "omit 0 0 0"), api.ErrKind)
	}
	for _, s := range noWords {
		for _, name := range []string{"put", "other"} {
			wantKind(t, k, sample(), rows("copy 4", name+" 0 0 1 "+s), api.ErrKind)
		}
	}
	for _, s := range noNumbers {
		wantKind(t, k, sample(), rows("copy "+s), api.ErrKind)
		for _, at := range []string{s + " 0 0", "0 " + s + " 0", "0 0 " + s} {
			wantKind(t, k, sample(), rows("copy 4", "omit "+at), api.ErrKind)
			wantKind(t, k, sample(), rows("copy 4", "put "+at+" a"), api.ErrKind)
			wantKind(t, k, sample(), rows("copy 4", "other "+at+" a"), api.ErrKind)
		}
	}
}

// P11.5: the rows of slips.
func TestSlips(t *testing.T) {
	for _, x := range []struct {
		slips []api.Slip
		want  []string
	}{
		{nil, nil},
		{three(), rows("slip 0 0 2 is", "before sea", "after old old", "slip 0 1 0 old", "before sea is old", "slip 0 0 0 the", "after sea is old", "slip 9999 0 9999 sea")},
		{[]api.Slip{slipOf(place(0, 9999, 0), "slip", "before", "after"), slipOf(place(0, 9999, 0), "slip", "before", "after")}, rows("slip 0 9999 0 slip", "before before", "after after", "slip 0 9999 0 slip", "before before", "after after")},
		{[]api.Slip{slipOf(place(1, 2, 3), "abcdefghijkl", side, side)}, rows("slip 1 2 3 abcdefghijkl", "before "+side, "after "+side)},
	} {
		l, e := sheaf.OfSlips(x.slips)
		wantList(t, x.slips, l, e, x.want...)
		s, e := sheaf.ToSlips(l)
		wantList(t, l, s, e, x.slips...)
	}
}

// wantSlips checks the error of OfSlips, and that there are rows if there is none.
func wantSlips(t *testing.T, s []api.Slip, want api.Errno) {
	t.Helper()
	l, e := sheaf.OfSlips(s)
	if e != want || e != api.OK && len(l) != 0 {
		t.Errorf("%d slips, %.100v: %q, %v, not %v", len(s), s, l, e, want)
	}
	if e == api.OK {
		wantList(t, s, l, e, rowsOf(s)...)
	}
}

// P11.5: ErrSlip of slips that are not valid, or have numbers that are not written; ErrRows behind it.
func TestErrorsOfSlips(t *testing.T) {
	good := slipOf(place(0, 0, 0), "sea", "", "")
	var bad []api.Slip
	for _, s := range noWords {
		bad = append(bad, slipOf(place(0, 0, 0), s, "the", "is"))
		if s != "" {
			bad = append(bad, slipOf(place(0, 0, 0), "sea", s, "is"), slipOf(place(0, 0, 0), "sea", "the", s))
		}
	}
	for _, s := range []string{" ", " the", "the ", "the  old", side + "e", "the\nold"} {
		bad = append(bad, slipOf(place(0, 0, 0), "sea", s, "is"), slipOf(place(0, 0, 0), "sea", "the", s))
	}
	for _, n := range far {
		bad = append(bad, slipOf(place(n, 0, 0), "sea", "", ""), slipOf(place(0, n, 0), "sea", "", ""), slipOf(place(0, 0, n), "sea", "", ""))
	}
	for _, s := range bad {
		wantSlips(t, []api.Slip{s}, api.ErrSlip)
		wantSlips(t, []api.Slip{good, s, good}, api.ErrSlip)
		// It is ahead of ErrRows.
		wantSlips(t, append(slices.Repeat([]api.Slip{good}, 700), s), api.ErrSlip)
	}
	both := slipOf(place(9999, 9999, 9999), "sea", side, side)
	left, right := slipOf(place(0, 0, 0), "sea", "the", ""), slipOf(place(0, 0, 0), "sea", "", "the")
	for _, x := range []struct {
		s []api.Slip
		e api.Errno
	}{
		{slices.Repeat([]api.Slip{good}, 200), api.OK},
		{slices.Repeat([]api.Slip{good}, 201), api.ErrRows},
		{slices.Repeat([]api.Slip{good}, 100000), api.ErrRows},
		{slices.Repeat([]api.Slip{both}, 66), api.OK},
		{append(slices.Repeat([]api.Slip{both}, 66), left), api.OK},
		{append(slices.Repeat([]api.Slip{both}, 66), good, good), api.OK},
		{append(slices.Repeat([]api.Slip{both}, 66), good, left), api.ErrRows},
		{slices.Repeat([]api.Slip{both}, 67), api.ErrRows},
		{slices.Repeat([]api.Slip{left}, 100), api.OK},
		{slices.Repeat([]api.Slip{left}, 101), api.ErrRows},
		{slices.Repeat([]api.Slip{right}, 100), api.OK},
		{append(slices.Repeat([]api.Slip{right}, 100), good), api.ErrRows},
	} {
		wantSlips(t, x.s, x.e)
	}
	for _, row := range []string{"before " + side + "e", "after " + side + "e", "before" + strings.Repeat(" a", 41), "after" + strings.Repeat(" a", 76)} {
		wantKind(t, kinds[2], sample(), rows("slip 0 0 0 sea", row), api.ErrSlip)
		wantKind(t, kinds[2], sample(), rows("slip 0 0 0 sea", "slip 0 0 0 sea", row, "slip 0 0 0 sea"), api.ErrSlip)
	}
	wantKind(t, kinds[2], sample(), rows("slip 0 0 0 sea", "before "+side, "after"+strings.Repeat(" a", 40)), api.OK)
}

// P11.5: ErrKind of rows that are none of slips.
func TestKindOfSlips(t *testing.T) {
	k := kinds[2]
	one := "slip 0 0 0 sea"
	for _, l := range [][]string{{"before the"}, {"after is"}, {one, "after is", "before the"}, {one, "before the", "before the"}, {one, "after is", "after is"}, {one, "before the", "after is", "before the"}, {one, "before the", "after is", "after is"}, {one, one, "after is", "before the"}, {one, "before"}, {one, "after"}, {one, "before "}, {one, "before the "}, {one, " before the"}, {one, "before  the"}, {one, "Before the"}, {one, "before the", "line is"}, {one, "chapter 7"}, {one, "copy 4"}, {"slip"}, {"slip 0"}, {"slip 0 0"}, {"slip 0 0 0"}, {"slip 0 0 sea"}, {"slip 0 0 0 0"}, {"slip 0 0 0 sea sea"}, {"slip 0 0 0 sea 0"}, {one + " "}, {" " + one}, {"slip  0 0 0 sea"}, {"Slip 0 0 0 sea"}, {"sea"}} {
		wantKind(t, k, sample(), l, api.ErrKind)
		wantKind(t, k, sample(), append(rows(one, "before the", "after is"), l...), errorOf(k, sample(), append(rows(one, "before the", "after is"), l...)))
		wantKind(t, k, sample(), append(slices.Clone(l), one), api.ErrKind)
	}
	for _, s := range noWords {
		wantKind(t, k, sample(), rows("slip 0 0 0 "+s), api.ErrKind)
		for _, name := range []string{"before", "after"} {
			wantKind(t, k, sample(), rows(one, name+" "+s), api.ErrKind)
			wantKind(t, k, sample(), rows(one, name+" a "+s+" b"), api.ErrKind)
		}
	}
	for _, s := range noNumbers {
		for _, at := range []string{s + " 0 0", "0 " + s + " 0", "0 0 " + s} {
			wantKind(t, k, sample(), rows("slip "+at+" sea"), api.ErrKind)
		}
	}
}

// P11.6: the rows of a lexicon.
func TestLexicon(t *testing.T) {
	for _, x := range []struct {
		x    api.Lexicon
		want []string
	}{
		{api.Lexicon{}, nil},
		{decided(), rows("cut s 2", "cut ld lde 1", "void 5 3", "form 1 sea sea 1", "from 2 0 1 0 old age 3", "place 3 1 0 2 see 2")},
		{api.Lexicon{Rules: []api.Rule{{Cut: "abcdefghijkl", Put: "lkjihgfedcba", Least: 12}, {Cut: "cut", Put: "put", Least: 1}}}, rows("cut abcdefghijkl lkjihgfedcba 12", "cut cut put 1")},
		{api.Lexicon{Decisions: []api.Decision{{Number: 999, Kind: api.DecideFrom, Form: "abcdefghijkl", At: place(0, 0, 0), To: head("abcdefghijkl", 0)}, {Number: 2, Kind: api.DecideVoid, Of: 1}, {Number: 1, Kind: api.DecidePlace, At: place(0, 0, 0), To: head("place", 0)}}}, rows("from 999 0 0 0 abcdefghijkl abcdefghijkl 0", "void 2 1", "place 1 0 0 0 place 0")},
	} {
		l, e := sheaf.OfLexicon(sample(), x.x)
		wantList(t, x.x, l, e, x.want...)
		y, e := sheaf.ToLexicon(sample(), l)
		wantAny(t, l, y, e, x.x)
	}
}

// P11.6: stem.Check's error of a lexicon.
func TestErrorsOfLexicon(t *testing.T) {
	sea, at := head("sea", 1), place(0, 0, 0)
	bad := []api.Lexicon{{Rules: []api.Rule{{Cut: "s", Put: "s", Least: 1}}}, {Rules: []api.Rule{{Put: "s", Least: 1}}}, {Rules: []api.Rule{{Cut: "s"}}}, {Rules: slices.Repeat([]api.Rule{{Cut: "s", Least: 1}}, 13)}, {Decisions: []api.Decision{{}}}, {Decisions: []api.Decision{{Number: 1, Kind: 5}}}, {Decisions: []api.Decision{{Number: 1, Kind: 255}}}, {Decisions: []api.Decision{{Number: 1, Kind: 1, Form: "sea", To: head("sea", 4)}}}, {Decisions: []api.Decision{{Number: 1, Kind: 1, Form: "sea", To: sea, Of: 1}}}, {Decisions: []api.Decision{{Number: 1, Kind: 3, Form: "sea", At: at, To: sea}}}, {Decisions: []api.Decision{{Number: 1, Kind: 4, Of: 1}}}, {Decisions: slices.Repeat([]api.Decision{{Number: 1, Kind: 1, Form: "sea", To: sea}}, 2)}}
	for _, n := range far {
		bad = append(bad, api.Lexicon{Rules: []api.Rule{{Cut: "s", Least: n}}}, api.Lexicon{Decisions: []api.Decision{{Number: n, Kind: 1, Form: "sea", To: sea}}}, api.Lexicon{Decisions: []api.Decision{{Number: 9, Kind: 4, Of: n}}}, api.Lexicon{Decisions: []api.Decision{{Number: 9, Kind: 3, At: place(0, 0, n), To: sea}}})
	}
	for _, x := range bad {
		if l, e := sheaf.OfLexicon(sample(), x); len(l) != 0 || e != api.ErrLexicon {
			t.Errorf("%+v: %q, %v", x, l, e)
		}
	}
	for _, l := range [][]string{{"cut s s 1"}, {"cut s 0"}, {"cut s 13"}, {"cut s 9999"}, slices.Repeat(rows("cut s 1"), 13), slices.Repeat(rows("cut s 1"), 199), {"form 0 sea sea 1"}, {"form 1000 sea sea 1"}, {"form 1 sea sea 4"}, {"form 1 sea sea 255"}, {"form 1 sea sea 1", "void 1 1"}, {"void 1 0"}, {"void 2 2"}, {"void 2 9999"}, {"from 1 0 0 4 sea sea 1"}, {"place 1 9 0 0 sea 1"}, {"place 1 0 0 0 sea 255"}, {"from 1 0 0 0 sea sea 255"}, {"from 9999 0 0 0 sea sea 0"}} {
		wantKind(t, kinds[3], sample(), l, api.ErrLexicon)
		wantKind(t, kinds[3], sample(), append(rows("cut ld 1"), l...), api.ErrLexicon)
	}
	var many []string
	for _, s := range strings.Fields("1 2 3 4 5 6 7 8 9 10 11 12 13 14 15 16 17 18 19 20") {
		many = append(many, "form "+s+" sea sea 1")
	}
	wantKind(t, kinds[3], sample(), many, api.OK)
	wantKind(t, kinds[3], sample(), append(many, "form 21 sea sea 1"), api.ErrLexicon)
}

// P11.6: ErrKind of rows that are none of a lexicon.
func TestKindOfLexicon(t *testing.T) {
	k := kinds[3]
	for _, row := range []string{"cut", "cut s", "cut 1", "cut s s", "cut s s s 1", "cut s 1 1", "cut s 1 s", "cut 1 s", "cut s  1", "cut s 1 ", "Cut s 1", "form", "form 1", "form 1 sea", "form 1 sea sea", "form 1 sea sea 1 1", "form sea sea 1", "form 1 sea 1", "form 1 1 sea 1", "form 1 sea sea sea", "from 1 0 0 0 sea sea", "from 1 0 0 sea sea 1", "from 1 0 0 0 sea 1", "from 1 sea 0 0 0 sea 1", "from 0 0 0 sea sea 1", "place 1 0 0 0 sea", "place 1 0 0 0 sea sea 1", "place 1 0 0 sea 1", "place 1 0 0 0 1", "void", "void 1", "void 2 1 1", "void 2 sea", "void a 1", "put s 1", "rule s 1", "line s", "copy 4", "place", " void 2 1", "void 2 1 ", "void  2 1", "4 2 1"} {
		wantKind(t, k, sample(), rows(row), api.ErrKind)
		wantKind(t, k, sample(), rows("cut s 2", row, "void 2 1"), api.ErrKind)
		wantKind(t, k, sample(), rows("void 2 1", row), api.ErrKind)
	}
	// Rules come before all decisions.
	for _, row := range []string{"form 7 sea sea 1", "from 7 0 0 0 sea sea 1", "place 7 0 0 0 sea 1", "void 7 1"} {
		wantKind(t, k, sample(), rows("cut s 2", "cut t 2", row), api.OK)
		wantKind(t, k, sample(), rows("cut s 2", row, "cut t 2"), api.ErrKind)
		wantKind(t, k, sample(), rows(row, "cut t 2"), api.ErrKind)
		wantKind(t, k, sample(), rows(row, "void 2 1", "cut t 2"), api.ErrKind)
	}
	for _, s := range noWords {
		// A Put that is empty is not there.
		if s != "1" {
			wantKind(t, k, sample(), rows("cut s "+s+" 1"), api.ErrKind)
		}
		for _, row := range []string{"cut " + s + " 1", "cut " + s + " s 1", "form 1 " + s + " sea 1", "form 1 sea " + s + " 1", "from 1 0 0 0 " + s + " sea 1", "from 1 0 0 0 sea " + s + " 1", "place 1 0 0 0 " + s + " 1"} {
			wantKind(t, k, sample(), rows(row), api.ErrKind)
		}
	}
	for _, s := range noNumbers {
		for _, row := range []string{"cut s " + s, "cut s t " + s, "form " + s + " sea sea 1", "form 1 sea sea " + s, "from " + s + " 0 0 0 sea sea 1", "from 1 " + s + " 0 0 sea sea 1", "from 1 0 " + s + " 0 sea sea 1", "from 1 0 0 " + s + " sea sea 1", "from 1 0 0 0 sea sea " + s, "place " + s + " 0 0 0 sea 1", "place 1 " + s + " 0 0 sea 1", "place 1 0 " + s + " 0 sea 1", "place 1 0 0 " + s + " sea 1", "place 1 0 0 0 sea " + s, "void " + s + " 1", "void 2 " + s} {
			wantKind(t, k, sample(), rows(row), api.ErrKind)
		}
	}
	// A mark is not above 255, in whatever way it is cut off.
	for _, s := range []string{"256", "257", "511", "512", "999", "9999"} {
		for _, row := range []string{"form 1 sea sea " + s, "from 1 0 0 0 sea sea " + s, "place 1 0 0 0 sea " + s} {
			wantKind(t, k, sample(), rows(row), api.ErrKind)
		}
	}
}

// P11.3 to P11.6: ErrRows is ahead of ErrKind, and of what is wrong with what is read.
func TestRowsOfKinds(t *testing.T) {
	for _, k := range kinds {
		for _, bad := range noRows {
			for _, l := range [][]string{{bad}, {"nothing", bad}, {bad, "nothing"}, {"chapter 7", bad}, {"copy 4", "omit 9 9 9", bad}, {"void 1 1", bad}, {"slip 0 0 0 sea", "after" + strings.Repeat(" a", 76), bad}} {
				wantKind(t, k, sample(), l, api.ErrRows)
			}
		}
		for _, l := range [][]string{slices.Repeat(rows("nothing"), 201), slices.Repeat(rows("chapter 7"), 201), append(rows("copy 4"), slices.Repeat(rows("omit 0 0 0"), 200)...), slices.Repeat(rows("slip 0 0 0 sea"), 201), slices.Repeat(rows("cut s 2"), 201), slices.Repeat(rows("void 2 1"), 1000000)} {
			wantKind(t, k, sample(), l, api.ErrRows)
		}
	}
	wantKind(t, kinds[2], sample(), slices.Repeat(rows("slip 0 0 0 sea"), 200), api.OK)
}

// P11.11: texts, copies, slips and lexicons are read from their rows as they were, and their rows are those of the document.
func TestReadAsTheyWere(t *testing.T) {
	d := dice(3)
	for range 700 {
		text := d.text()
		c, s, x := d.copy(text), d.slips(20), d.lexicon(text)
		l, e := sheaf.OfText(text)
		wantList(t, text, l, e, rowsOf(text)...)
		text2, e := sheaf.ToText(l)
		wantAny(t, l, text2, e, text)
		l, e = sheaf.OfCopy(text, c)
		wantList(t, c, l, e, rowsOf(c)...)
		c2, e := sheaf.ToCopy(text, l)
		wantAny(t, l, c2, e, c)
		l, e = sheaf.OfSlips(s)
		wantList(t, s, l, e, rowsOf(s)...)
		s2, e := sheaf.ToSlips(l)
		wantList(t, l, s2, e, s...)
		l, e = sheaf.OfLexicon(text, x)
		wantList(t, x, l, e, rowsOf(x)...)
		x2, e := sheaf.ToLexicon(text, l)
		wantAny(t, l, x2, e, x)
	}
}

// torn is rows in which some words, or rows, are others, go, or come again.
func (d *dice) torn(l []string) []string {
	l = slices.Clone(l)
	for range 1 + d.roll(2) {
		if len(l) == 0 {
			return rows(one(d, "chapter 7", "copy 4", "slip 0 0 0 a", "cut a 1", "void 2 1", "line a", "after a"))
		}
		n := d.roll(len(l))
		words := strings.Split(l[n], " ")
		at := d.roll(len(words))
		switch d.roll(8) {
		case 0:
			words[at] = one(d, "a", "abc", "1", "0", "10", "9999", "10000", "00", "", "A", "line", "omit", "put", "other", "before", "after", "form", "void", "256", "abcdefghijklm")
		case 1:
			words = slices.Delete(words, at, at+1)
		case 2:
			words = slices.Insert(words, at, one(d, "a", "1", "", words[at]))
		case 3:
			l = slices.Delete(l, n, n+1)
			continue
		case 4:
			l = slices.Insert(l, d.roll(len(l)), l[n])
			continue
		case 5:
			to := d.roll(len(l))
			l[n], l[to] = l[to], l[n]
			continue
		case 6:
			row := []byte(l[n] + " ")
			row[d.roll(len(row))] = one(d, ' ', 'a', '0', '1', 'Z', '\n', '-', byte(d.roll(256)))
			words = strings.Split(strings.TrimSuffix(string(row), " "), " ")
		case 7:
			l = l[:n]
			continue
		}
		l[n] = strings.Join(words, " ")
	}
	return l
}

// P11.3 to P11.6, P11.11: of any rows there is the error that the document names, or what they are of; and this is written as it was read.
func TestTornRows(t *testing.T) {
	d := dice(4)
	for _, k := range kinds {
		errors := map[api.Errno]int{}
		for range 6000 {
			text := d.text()
			l := d.torn(d.rowsOfKind(k, text))
			e := errorOf(k, text, l)
			wantKind(t, k, text, l, e)
			errors[e]++
			if e == api.OK {
				again, e := k.back(text, l)
				wantList(t, l, again, e, l...)
			}
		}
		if errors[api.OK] < 500 || errors[api.ErrKind] < 500 || errors[api.ErrRows] < 50 || len(errors) < 4 && k.name != "slips" {
			t.Error(k.name, errors)
		}
	}
}

// P11.11: rows of one kind are of no other one, unless there are none of them.
func TestOtherKinds(t *testing.T) {
	d := dice(5)
	for range 300 {
		text := d.text()
		for _, k := range kinds {
			l := d.rowsOfKind(k, text)
			for _, other := range kinds {
				want := api.ErrKind
				if k.name == other.name {
					want = api.OK
				} else if len(l) == 0 {
					want = errorOf(other, text, nil)
				}
				wantKind(t, other, text, l, want)
			}
		}
	}
}
