package sheaf_test

import (
	"fmt"
	"math"
	"reflect"
	"regexp"
	"slices"
	"strconv"
	"strings"
	"testing"

	"postil/api"
	"postil/leaf"
	"postil/sheaf"
	"postil/slip"
	"postil/stem"
)

// far is numbers outside of everything that is allowed, of either sign.
var far = []int{math.MinInt, math.MinInt + 1, math.MinInt32, -1, 10000, math.MaxInt32, math.MaxInt - 1, math.MaxInt}

// noRows is texts that are no rows.
var noRows = []string{"", "\n", "a\n", "\na", "a\tb", "\x00", "a\x1f", "\x7f", "\x80", "é", "\xff", strings.Repeat("a", 161), strings.Repeat("b", 100000)}

// noWords is texts that are no words, and noNumbers those that are no numbers, or are written wrong.
var (
	noWords   = []string{"", "A", "Sea", "sea1", "1", "`", "{", "s-a", "abcdefghijklm", strings.Repeat("a", 60)}
	noNumbers = []string{"", "-1", "+1", "-0", "01", "00", "0x1", "1e1", "1_0", "1.0", "a", "10000", "65536", "4294967296", "9223372036854775807", "9223372036854775808", "18446744073709551616", strings.Repeat("9", 60)}
)

// book is a text of chapters with Ids from 7 down, whose lines are parted by strokes.
func book(chapters ...string) api.Text {
	var t api.Text
	for i, s := range chapters {
		c := api.Chapter{Id: 7 - i}
		for line := range strings.SplitSeq(s, "/") {
			c.Lines = append(c.Lines, strings.Fields(line))
		}
		t.Chapters = append(t.Chapters, c)
	}
	return t
}

// sample is the text of layer 1's examples, and cold its copy.
func sample() api.Text {
	t := book("the sea is old/old the sea", "sea and sea")
	t.Chapters[1].Id = 3
	return t
}

func cold() api.Copy {
	return copyOf(4, reading(api.ReadOther, place(0, 0, 3), "cold"), reading(api.ReadOmit, place(0, 1, 1), ""), reading(api.ReadPut, place(1, 0, 3), "salt"))
}

// decided is a lexicon of the sample that has decisions of all kinds, and rules that put something, or nothing.
func decided() api.Lexicon {
	return api.Lexicon{
		Rules: []api.Rule{{Cut: "s", Least: 2}, {Cut: "ld", Put: "lde", Least: 1}},
		Decisions: []api.Decision{
			{Number: 5, Kind: api.DecideVoid, Of: 3},
			{Number: 1, Kind: api.DecideForm, Form: "sea", To: head("sea", api.MarkNoun)},
			{Number: 2, Kind: api.DecideFrom, Form: "old", At: place(0, 1, 0), To: head("age", api.MarkOther)},
			{Number: 3, Kind: api.DecidePlace, At: place(1, 0, 2), To: head("see", api.MarkVerb)},
		},
	}
}

// three is slips with words on both sides, and on one of them.
func three() []api.Slip {
	return []api.Slip{slipOf(place(0, 0, 2), "is", "sea", "old old"), slipOf(place(0, 1, 0), "old", "sea is old", ""), slipOf(place(0, 0, 0), "the", "", "sea is old"), slipOf(place(9999, 0, 9999), "sea", "", "")}
}

func place(chapter, line, word int) api.Place {
	return api.Place{Chapter: chapter, Line: line, Word: word}
}

func head(word string, mark uint8) api.Head { return api.Head{Stem: word, Mark: mark} }

func reading(kind uint8, at api.Place, word string) api.Reading {
	return api.Reading{At: at, Kind: kind, Word: word}
}

func copyOf(id int, l ...api.Reading) api.Copy { return api.Copy{Id: id, Readings: l} }

func slipOf(at api.Place, word, before, after string) api.Slip {
	return api.Slip{At: at, Word: word, Before: before, After: after}
}

func rows(l ...string) []string { return l }

// letters is rows of one letter each.
func letters(s string) []string { return strings.Split(s, "")[:len(s)] }

func hunk(at, drop int, put ...string) api.Hunk { return api.Hunk{At: at, Drop: drop, Put: put} }

func shelf(first []string, l ...api.Hunk) api.Shelf { return api.Shelf{First: first, Changes: l} }

// numbered is so many rows, each one another one.
func numbered(n int) []string {
	var l []string
	for i := range n {
		l = append(l, "row "+strconv.Itoa(i))
	}
	return l
}

// checkOf is the check of a row, by the powers of 31.
func checkOf(row string, index int) string {
	n, power := 0, 1
	for i := len(row) - 1; i >= 0; i-- {
		n += int(row[i]) * power
		power = power * 31 % 676
	}
	n = (n + (17*index+5)*power) % 676
	return fmt.Sprintf("%c%c", 'a'+n/26, 'a'+n%26)
}

// bytesOf is the bytes of rows, also of more and others than there may be.
func bytesOf(l ...string) string {
	var s strings.Builder
	for i, row := range l {
		s.WriteString(row + " " + checkOf(row, i) + "\n")
	}
	return s.String()
}

var aRow = regexp.MustCompile(`^[ -~]{1,160}$`)

func areRows(l ...string) bool {
	return len(l) <= 200 && !slices.ContainsFunc(l, func(row string) bool { return strings.Contains(row, "\n") || !aRow.MatchString(row) })
}

// readOf is the rows of the longest beginning that is the bytes of rows, and how long it is: all beginnings are tried.
func readOf(s string) ([]string, int) {
beginning:
	for n := len(s); n > 0; n-- {
		if s[n-1] != '\n' {
			continue
		}
		var l []string
		for line := range strings.SplitSeq(s[:n-1], "\n") {
			if len(line) < 3 {
				continue beginning
			}
			l = append(l, line[:len(line)-3])
		}
		if areRows(l...) && bytesOf(l...) == s[:n] {
			return l, n
		}
	}
	return nil, 0
}

// kind is a kind of rows, by the word of the document: what they are like, what one reads of them, and what is wrong with that.
type kind struct {
	name  string
	like  *regexp.Regexp
	error func(t api.Text, l []string) api.Errno
	// read is what the call returns of rows, of is what the other call returns of what is read.
	read func(t api.Text, l []string) (any, api.Errno)
	back func(t api.Text, l []string) ([]string, api.Errno)
}

// like is what all rows of a kind are like, one under the other.
func like(s string) *regexp.Regexp {
	s = strings.NewReplacer("W", "[a-z]{1,12}", "N", "(0|[1-9][0-9]{0,3})", "P", "(0|[1-9][0-9]{0,3})( (0|[1-9][0-9]{0,3})){2}", "M", "(0|[1-9][0-9]?|1[0-9][0-9]|2[0-4][0-9]|25[0-5])").Replace(s)
	return regexp.MustCompile(`\A` + s + `\z`)
}

// kinds is all kinds of rows.
var kinds = []kind{
	{
		name:  "text",
		like:  like(`(chapter N\n(line( W)+\n)*)*`),
		error: func(t api.Text, l []string) api.Errno { return leaf.Check(textOf(l)) },
		read:  func(t api.Text, l []string) (any, api.Errno) { return toAny(sheaf.ToText(l)) },
		back:  func(t api.Text, l []string) ([]string, api.Errno) { return sheaf.OfText(textOf(l)) },
	},
	{
		name:  "copy",
		like:  like(`copy N\n((omit P|put P W|other P W)\n)*`),
		error: func(t api.Text, l []string) api.Errno { return leaf.CheckCopy(t, copyIn(l)) },
		read:  func(t api.Text, l []string) (any, api.Errno) { return toAny(sheaf.ToCopy(t, l)) },
		back:  func(t api.Text, l []string) ([]string, api.Errno) { return sheaf.OfCopy(t, copyIn(l)) },
	},
	{
		name: "slips",
		like: like(`(slip P W\n(before( W)+\n)?(after( W)+\n)?)*`),
		error: func(t api.Text, l []string) api.Errno {
			_, e := slip.Twice(slipsOf(l))
			return e
		},
		read: func(t api.Text, l []string) (any, api.Errno) { return toAny(sheaf.ToSlips(l)) },
		back: func(t api.Text, l []string) ([]string, api.Errno) { return sheaf.OfSlips(slipsOf(l)) },
	},
	{
		name:  "lexicon",
		like:  like(`(cut W( W)? N\n)*((form N W W M|from N P W W M|place N P W M|void N N)\n)*`),
		error: func(t api.Text, l []string) api.Errno { return stem.Check(t, lexiconOf(l)) },
		read:  func(t api.Text, l []string) (any, api.Errno) { return toAny(sheaf.ToLexicon(t, l)) },
		back:  func(t api.Text, l []string) ([]string, api.Errno) { return sheaf.OfLexicon(t, lexiconOf(l)) },
	},
}

func toAny[T any](x T, e api.Errno) (any, api.Errno) { return x, e }

// is tells whether rows are of the kind.
func (k kind) is(l []string) bool {
	all := ""
	for _, row := range l {
		all += row + "\n"
	}
	return k.like.MatchString(all)
}

// of is what rows of a kind are of.
func (k kind) of(l []string) any {
	switch k.name {
	case "text":
		return textOf(l)
	case "copy":
		return copyIn(l)
	case "slips":
		return slipsOf(l)
	}
	return lexiconOf(l)
}

// number is the number that stands in a row of a kind at an index, and placeOf the place from it on.
func number(row []string, i int) int {
	n, e := strconv.Atoi(row[i])
	if e != nil {
		panic(e)
	}
	return n
}

func placeOf(row []string, i int) api.Place {
	return place(number(row, i), number(row, i+1), number(row, i+2))
}

// textOf is the text of rows of this kind; so are copyIn, slipsOf and lexiconOf.
func textOf(l []string) api.Text {
	var t api.Text
	for _, s := range l {
		if row := strings.Fields(s); row[0] == "chapter" {
			t.Chapters = append(t.Chapters, api.Chapter{Id: number(row, 1)})
		} else {
			c := &t.Chapters[len(t.Chapters)-1]
			c.Lines = append(c.Lines, row[1:])
		}
	}
	return t
}

func copyIn(l []string) api.Copy {
	var c api.Copy
	for _, s := range l {
		switch row := strings.Fields(s); row[0] {
		case "copy":
			c.Id = number(row, 1)
		case "omit":
			c.Readings = append(c.Readings, reading(1, placeOf(row, 1), ""))
		case "put":
			c.Readings = append(c.Readings, reading(2, placeOf(row, 1), row[4]))
		case "other":
			c.Readings = append(c.Readings, reading(3, placeOf(row, 1), row[4]))
		}
	}
	return c
}

func slipsOf(l []string) []api.Slip {
	var slips []api.Slip
	for _, s := range l {
		switch row := strings.Fields(s); row[0] {
		case "slip":
			slips = append(slips, slipOf(placeOf(row, 1), row[4], "", ""))
		case "before":
			slips[len(slips)-1].Before = s[len("before "):]
		case "after":
			slips[len(slips)-1].After = s[len("after "):]
		}
	}
	return slips
}

func lexiconOf(l []string) api.Lexicon {
	var x api.Lexicon
	for _, s := range l {
		row := strings.Fields(s)
		n := len(row) - 1
		d := api.Decision{}
		if row[0] != "cut" {
			d.Number = number(row, 1)
		}
		if strings.Contains("form from place", row[0]) {
			d.To = head(row[n-1], uint8(number(row, n)))
		}
		switch row[0] {
		case "cut":
			x.Rules = append(x.Rules, api.Rule{Cut: row[1], Put: strings.Join(row[2:n], ""), Least: number(row, n)})
			continue
		case "form":
			d.Kind, d.Form = 1, row[2]
		case "from":
			d.Kind, d.At, d.Form = 2, placeOf(row, 2), row[5]
		case "place":
			d.Kind, d.At = 3, placeOf(row, 2)
		case "void":
			d.Kind, d.Of = 4, number(row, 2)
		}
		x.Decisions = append(x.Decisions, d)
	}
	return x
}

// rowsOf is the rows of a text, of a copy, of slips, or of a lexicon.
func rowsOf(x any) []string {
	var l []string
	add := func(format string, words ...any) {
		l = append(l, strings.Join(strings.Fields(fmt.Sprintf(format, words...)), " "))
	}
	at := func(p api.Place) string { return fmt.Sprintf("%d %d %d", p.Chapter, p.Line, p.Word) }
	switch x := x.(type) {
	case api.Text:
		for _, c := range x.Chapters {
			add("chapter %d", c.Id)
			for _, line := range c.Lines {
				add("line %s", strings.Join(line, " "))
			}
		}
	case api.Copy:
		add("copy %d", x.Id)
		for _, r := range x.Readings {
			add("%s %s %s", []string{"", "omit", "put", "other"}[r.Kind], at(r.At), r.Word)
		}
	case []api.Slip:
		for _, s := range x {
			add("slip %s %s", at(s.At), s.Word)
			for _, side := range [][2]string{{"before", s.Before}, {"after", s.After}} {
				if side[1] != "" {
					add("%s %s", side[0], side[1])
				}
			}
		}
	case api.Lexicon:
		for _, r := range x.Rules {
			add("cut %s %s %d", r.Cut, r.Put, r.Least)
		}
		for _, d := range x.Decisions {
			switch d.Kind {
			case 1:
				add("form %d %s %s %d", d.Number, d.Form, d.To.Stem, d.To.Mark)
			case 2:
				add("from %d %s %s %s %d", d.Number, at(d.At), d.Form, d.To.Stem, d.To.Mark)
			case 3:
				add("place %d %s %s %d", d.Number, at(d.At), d.To.Stem, d.To.Mark)
			case 4:
				add("void %d %d", d.Number, d.Of)
			}
		}
	}
	return l
}

// generations is the rows of all generations of a valid shelf, row by row.
func generations(s api.Shelf) [][]string {
	l := [][]string{s.First}
	for _, h := range s.Changes {
		var next []string
		for i, row := range append(slices.Clone(l[len(l)-1]), "the end") {
			if i == h.At {
				next = append(next, h.Put...)
			}
			if i < h.At || i >= h.At+h.Drop {
				next = append(next, row)
			}
		}
		l = append(l, next[:len(next)-1])
	}
	return l
}

// hunkOf is the hunk from some rows to others: the numbers of rows that they have in common are tried, from the greatest one down.
func hunkOf(from, to []string) api.Hunk {
	most := min(len(from), len(to))
	at := most
	for !slices.Equal(from[:at], to[:at]) {
		at--
	}
	end := most - at
	for !slices.Equal(from[len(from)-end:], to[len(to)-end:]) {
		end--
	}
	return hunk(at, len(from)-end-at, to[at:len(to)-end]...)
}

// mergeOf is what two files that were made of one are merged to, row by row, and the error.
func mergeOf(o, a, b []string) ([]string, api.Errno) {
	if !areRows(o...) || !areRows(a...) || !areRows(b...) {
		return nil, api.ErrRows
	}
	if slices.Equal(a, o) {
		return b, api.OK
	}
	if slices.Equal(b, o) || slices.Equal(a, b) {
		return a, api.OK
	}
	between := false
	var l []string
	hunks := []api.Hunk{hunkOf(o, a), hunkOf(o, b)}
	for i := range len(o) + 1 {
		dropped := false
		for _, h := range hunks {
			if i == h.At {
				l = append(l, h.Put...)
			}
			dropped = dropped || i >= h.At && i < h.At+h.Drop
		}
		if i < len(o) && !dropped {
			l = append(l, o[i])
		}
		for n, h := range hunks {
			other := hunks[1-n]
			between = between || i >= h.At+h.Drop && i < other.At
		}
	}
	if !between {
		return nil, api.ErrMerge
	}
	if len(l) > 200 {
		return nil, api.ErrRows
	}
	return l, api.OK
}

// dice are numbers that look like chance, the same ones in each run.
type dice uint64

// roll is a number below n.
func (d *dice) roll(n int) int {
	*d = *d*6364136223846793005 + 1442695040888963407
	return int(uint64(*d) >> 33 % uint64(n))
}

// one is one of several things.
func one[T any](d *dice, l ...T) T { return l[d.roll(len(l))] }

func (d *dice) word() string { return one(d, "a", "b", "ab", "abb", "bab", "abcdefghijkl") }

// line is up to so many words.
func (d *dice) line(most int) []string {
	var l []string
	for range d.roll(most + 1) {
		l = append(l, d.word())
	}
	return l
}

func (d *dice) text() api.Text {
	var t api.Text
	for i := range 1 + d.roll(3) {
		c := api.Chapter{Id: one(d, 0, 90, 9990) + i}
		for range 1 + d.roll(3) {
			c.Lines = append(c.Lines, append(d.line(4), d.word()))
		}
		t.Chapters = append(t.Chapters, c)
	}
	return t
}

// places is all places of a text, in order.
func places(t api.Text) []api.Place {
	n, _ := leaf.Words(t)
	var l []api.Place
	for i := range n {
		p, _ := leaf.PlaceOf(t, i)
		l = append(l, p)
	}
	return l
}

// copy is a valid copy of a text.
func (d *dice) copy(t api.Text) api.Copy {
	for {
		c := copyOf(d.roll(10000))
		for _, p := range places(t) {
			if d.roll(6) == 0 {
				c.Readings = append(c.Readings, reading(api.ReadPut, p, d.word()))
			}
			switch d.roll(9) {
			case 0:
				c.Readings = append(c.Readings, reading(api.ReadOmit, p, ""))
			case 1:
				c.Readings = append(c.Readings, reading(api.ReadOther, p, d.word()))
			}
		}
		if leaf.CheckCopy(t, c) == api.OK {
			return c
		}
	}
}

// slips is up to so many slips, with any places that may be written.
func (d *dice) slips(most int) []api.Slip {
	var l []api.Slip
	for range d.roll(most + 1) {
		at := place(d.roll(10000), one(d, 0, 9999), d.roll(3))
		l = append(l, slipOf(at, d.word(), strings.Join(d.line(6), " "), strings.Join(d.line(6), " ")))
	}
	return l
}

// lexicon is a valid lexicon of a text.
func (d *dice) lexicon(t api.Text) api.Lexicon {
	for {
		var x api.Lexicon
		for range d.roll(5) {
			x.Rules = append(x.Rules, api.Rule{Cut: d.word(), Put: one(d, "", d.word()), Least: 1 + d.roll(12)})
		}
		for range d.roll(7) {
			x.Decisions = append(x.Decisions, d.decision(t))
		}
		if stem.Check(t, x) == api.OK {
			return x
		}
	}
}

func (d *dice) decision(t api.Text) api.Decision {
	number, at, to := 2+d.roll(998), one(d, places(t)...), head(d.word(), uint8(d.roll(4)))
	return one(d,
		api.Decision{Number: number, Kind: api.DecideForm, Form: d.word(), To: to},
		api.Decision{Number: number, Kind: api.DecideFrom, Form: d.word(), At: at, To: to},
		api.Decision{Number: number, Kind: api.DecidePlace, At: at, To: to},
		api.Decision{Number: number, Kind: api.DecideVoid, Of: 1 + d.roll(number-1)},
	)
}

// rowsOfKind is rows of the kind, of what is valid.
func (d *dice) rowsOfKind(k kind, t api.Text) []string {
	switch k.name {
	case "text":
		return rowsOf(d.text())
	case "copy":
		return rowsOf(d.copy(t))
	case "slips":
		return rowsOf(d.slips(5))
	}
	return rowsOf(d.lexicon(t))
}

// few is up to so many rows, of which many are the same.
func (d *dice) few(most int) []string {
	var l []string
	for range d.roll(most + 1) {
		l = append(l, one(d, "a", "b", "c", " ", "a b", "~"))
	}
	return l
}

// edited is rows of which some go, and others come.
func (d *dice) edited(l []string) []string {
	from := d.roll(len(l) + 1)
	to := from + d.roll(min(4, len(l)-from+1))
	return slices.Concat(l[:from], d.few(3), l[to:])
}

// shelf is a valid shelf, with up to so many hunks, which need not be the smallest.
func (d *dice) shelf(hunks int) api.Shelf {
	s := shelf(d.few(8))
	for range d.roll(hunks + 1) {
		l := generations(s)
		rows := len(l[len(l)-1])
		at := d.roll(rows + 1)
		s.Changes = append(s.Changes, hunk(at, d.roll(rows-at+1), d.few(3)...))
	}
	return s
}

// wantList checks a list, and its error.
func wantList[T comparable](t *testing.T, what any, l []T, e api.Errno, want ...T) {
	t.Helper()
	if !slices.Equal(l, want) || e != api.OK {
		t.Errorf("%+v: %+v, %v, not %+v", what, l, e, want)
	}
}

// wantOne checks a result that is no list, and that its error is OK.
func wantOne[T comparable](t *testing.T, what any, x T, e api.Errno, want T) {
	t.Helper()
	if x != want || e != api.OK {
		t.Errorf("%+v: %v, %v, not %v", what, x, e, want)
	}
}

// wantAny checks any result, and that its error is OK.
func wantAny(t *testing.T, what, x any, e api.Errno, want any) {
	t.Helper()
	if !same(reflect.ValueOf(x), reflect.ValueOf(want)) || e != api.OK {
		t.Errorf("%+v: %+v, %v, not %+v", what, x, e, want)
	}
}

// same tells whether two values of a type are the same; empty lists are as nil.
func same(a, b reflect.Value) bool {
	switch a.Kind() {
	case reflect.Slice:
		for i := range min(a.Len(), b.Len()) {
			if !same(a.Index(i), b.Index(i)) {
				return false
			}
		}
		return a.Len() == b.Len()
	case reflect.Struct:
		for i := range a.NumField() {
			if !same(a.Field(i), b.Field(i)) {
				return false
			}
		}
		return true
	}
	return a.Equal(b)
}
