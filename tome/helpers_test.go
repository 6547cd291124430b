package tome_test

import (
	"fmt"
	"math"
	"reflect"
	"slices"
	"strings"
	"testing"

	"postil/api"
	"postil/chart"
	"postil/leaf"
	"postil/slip"
	"postil/stem"
	"postil/tome"
)

// far is numbers outside of everything that is allowed, of either sign.
var far = []int{math.MinInt, math.MinInt + 1, math.MinInt32, -1, 10000, math.MaxInt32, math.MaxInt - 1, math.MaxInt}

// noWords is texts that are no words.
var noWords = []string{"", "Sea", "the sea", "sea ", " sea", "`", "{", "é", "\x00", "s\xff", "abcdefghijklm", strings.Repeat("a", 300)}

// calls is the names of all calls with records, and those of them that have a head, or a volume, too.
var (
	calls     = []string{"Check", "Make", "Of", "In", "Changed", "Print", "Find", "Lacks", "Twice", "Wrong"}
	ofHeads   = []string{"Of", "Print"}
	ofVolumes = []string{"Find", "Lacks", "Twice", "Wrong"}
)

// book is a text of chapters with Ids from 7 down, whose lines are parted by strokes.
func book(chapters ...string) api.Text {
	var t api.Text
	for i, s := range chapters {
		c := api.Chapter{Id: 7 - i}
		for line := range strings.SplitSeq(s, "/") {
			c.Lines = append(c.Lines, strings.Fields(line))
		}
		t.Chapters = append(t.Chapters, c)
	}
	return t
}

// sample is the records of the chapter's examples, and six their other edition.
func sample() api.Records {
	t := book("the sea is old/old the sea", "sea and sea")
	t.Chapters[1].Id = 3
	return api.Records{
		Text:   t,
		Copies: []api.Copy{copyOf(4, reading(api.ReadOther, place(0, 0, 3), "cold"), reading(api.ReadOmit, place(0, 1, 1), ""), reading(api.ReadPut, place(1, 0, 3), "salt"))},
		Lexicon: api.Lexicon{
			Rules: []api.Rule{{Cut: "s", Least: 2}, {Cut: "ld", Put: "lde", Least: 1}},
			Decisions: []api.Decision{
				form(1, "sea", head("sea", api.MarkNoun)),
				{Number: 2, Kind: api.DecideFrom, Form: "old", At: place(0, 1, 0), To: head("age", api.MarkOther)},
				only(3, place(1, 0, 2), head("see", api.MarkVerb)),
			},
		},
		Edition: edition(5, stretch(0, 0, 1, 1, 1), stretch(0, 1, 2, 2, 5)),
		Cut:     api.Cut{Width: 14, Side: api.SideEven},
	}
}

func six() api.Edition { return edition(6, stretch(0, 0, 2, 7, 1), stretch(1, 0, 1, 3, 1)) }

// bare is records of a text with nothing else.
func bare(chapters ...string) api.Records {
	return api.Records{Text: book(chapters...), Cut: api.Cut{Width: 12, Side: api.SideEven}}
}

// great is the greatest records there are: 600 words, each of them another one, in five copies, with all rules, decisions and stretches that there may be.
func great() api.Records {
	r := api.Records{Cut: api.Cut{Width: 80, Side: api.SideEven}}
	for i := range api.MaxChapters {
		c := api.Chapter{Id: i}
		for n := range api.MaxLines {
			var line []string
			for w := range api.MaxWords {
				line = append(line, strings.Repeat("z", 9)+string([]byte{'a' + byte(i), 'a' + byte(n), 'a' + byte(w)}))
			}
			c.Lines = append(c.Lines, line)
		}
		r.Text.Chapters = append(r.Text.Chapters, c)
		r.Edition.Stretches = append(r.Edition.Stretches, stretch(i, 0, 4, 999, 4*i+1), stretch(i, 5, 10, 1, 5*i+970))
	}
	for range api.MaxRules {
		r.Lexicon.Rules = append(r.Lexicon.Rules, api.Rule{Cut: "z", Put: "a", Least: 12})
	}
	for n := range api.MaxDecisions - 1 {
		r.Lexicon.Decisions = append(r.Lexicon.Decisions, only(999-n, place(5, 9, n%10), head("sea", api.MarkNoun)))
	}
	for i := range api.MaxCopies {
		var l []api.Reading
		for n := range api.MaxReadings {
			l = append(l, reading(api.ReadOther, place(i, n/10, n%10), "sea"))
		}
		r.Copies = append(r.Copies, copyOf(9995+i, l...))
	}
	return r
}

func place(chapter, line, word int) api.Place {
	return api.Place{Chapter: chapter, Line: line, Word: word}
}

func ref(chapter, line, word int) api.Ref { return api.Ref{Chapter: chapter, Line: line, Word: word} }

func head(word string, mark uint8) api.Head { return api.Head{Stem: word, Mark: mark} }

func reading(kind uint8, at api.Place, word string) api.Reading {
	return api.Reading{At: at, Kind: kind, Word: word}
}

func copyOf(id int, l ...api.Reading) api.Copy { return api.Copy{Id: id, Readings: l} }

func stretch(chapter, from, to, as, first int) api.Stretch {
	return api.Stretch{Chapter: chapter, From: from, To: to, As: as, First: first}
}

func edition(id int, l ...api.Stretch) api.Edition { return api.Edition{Id: id, Stretches: l} }

func form(number int, word string, to api.Head) api.Decision {
	return api.Decision{Number: number, Kind: api.DecideForm, Form: word, To: to}
}

func only(number int, at api.Place, to api.Head) api.Decision {
	return api.Decision{Number: number, Kind: api.DecidePlace, At: at, To: to}
}

// row is a row of a volume, sureRow one that no copy leaves in doubt, and openRow one that some copy does.
func row(p api.Place, r api.Ref, sure uint8) api.Row { return api.Row{At: p, Ref: r, Sure: sure} }

func sureRow(p api.Place, r api.Ref) api.Row { return row(p, r, api.KnownYes) }

func openRow(p api.Place, r api.Ref) api.Row { return row(p, r, api.KnownOpen) }

func formOf(word string, l ...api.Row) api.Form { return api.Form{Word: word, Rows: l} }

func entry(h api.Head, l ...api.Form) api.Entry { return api.Entry{Head: h, Forms: l} }

func volume(l ...api.Entry) api.Volume { return api.Volume{Entries: l} }

// with is records in which something is changed: their lists are others then.
func with(r api.Records, change func(r *api.Records)) api.Records {
	other := r
	other.Text.Chapters = nil
	for _, c := range r.Text.Chapters {
		var lines [][]string
		for _, line := range c.Lines {
			lines = append(lines, slices.Clone(line))
		}
		other.Text.Chapters = append(other.Text.Chapters, api.Chapter{Id: c.Id, Lines: lines})
	}
	other.Copies = nil
	for _, c := range r.Copies {
		other.Copies = append(other.Copies, copyOf(c.Id, slices.Clone(c.Readings)...))
	}
	other.Lexicon = api.Lexicon{Rules: slices.Clone(r.Lexicon.Rules), Decisions: slices.Clone(r.Lexicon.Decisions)}
	other.Edition.Stretches = slices.Clone(r.Edition.Stretches)
	change(&other)
	return other
}

// edited is a volume in which something is changed: its lists are others then.
func edited(v api.Volume, change func(v *api.Volume)) api.Volume {
	var other api.Volume
	for _, x := range v.Entries {
		var forms []api.Form
		for _, f := range x.Forms {
			forms = append(forms, formOf(f.Word, slices.Clone(f.Rows)...))
		}
		other.Entries = append(other.Entries, entry(x.Head, forms...))
	}
	change(&other)
	return other
}

// places is all places of a text, in order.
func places(t api.Text) []api.Place {
	var l []api.Place
	for c, chapter := range t.Chapters {
		for n, line := range chapter.Lines {
			for w := range line {
				l = append(l, place(c, n, w))
			}
		}
	}
	return l
}

func wordAt(t api.Text, p api.Place) string { return t.Chapters[p.Chapter].Lines[p.Line][p.Word] }

// noPlaces is values that are no places of a text.
func noPlaces(t api.Text) []api.Place {
	l := []api.Place{place(len(t.Chapters), 0, 0)}
	for c, chapter := range t.Chapters {
		l = append(l, place(c, len(chapter.Lines), 0))
		for n, line := range chapter.Lines {
			l = append(l, place(c, n, len(line)))
		}
	}
	for _, n := range far {
		l = append(l, place(n, 0, 0), place(0, n, 0), place(0, 0, n), place(n, n, n))
	}
	return l
}

// volumeOf is the volume of records, by the word of the document: head by head, and word by word.
func volumeOf(r api.Records) api.Volume {
	var v api.Volume
	heads, _ := stem.Heads(r.Text, r.Lexicon)
	for _, h := range heads {
		x := entry(h)
		forms, _ := stem.Forms(r.Text, r.Lexicon, h)
		under, _ := stem.Under(r.Text, r.Lexicon, h)
		for _, word := range forms {
			f := formOf(word)
			for _, p := range under {
				if wordAt(r.Text, p) == word {
					f.Rows = append(f.Rows, rowOf(r, p))
				}
			}
			x.Forms = append(x.Forms, f)
		}
		v.Entries = append(v.Entries, x)
	}
	return v
}

// rowOf is the row of a place, by each stretch and each copy.
func rowOf(r api.Records, p api.Place) api.Row {
	x := sureRow(p, api.Ref{})
	for _, s := range r.Edition.Stretches {
		if s.Chapter == p.Chapter && s.From <= p.Line && p.Line < s.To {
			x.Ref = ref(s.As, s.First+p.Line-s.From, p.Word+1)
		}
	}
	for _, c := range r.Copies {
		if word, _ := leaf.Stands(r.Text, c, p); word != wordAt(r.Text, p) {
			x.Sure = api.KnownOpen
		}
	}
	return x
}

// linesOf is the lines of an entry of the volume of records, by the word of the document.
func linesOf(r api.Records, x api.Entry) []string {
	title := x.Head.Stem
	if x.Head.Mark > 0 {
		title += fmt.Sprint("/", x.Head.Mark)
	}
	l := []string{title}
	for _, f := range x.Forms {
		l = append(l, fmt.Sprintf("%s %d", f.Word, len(f.Rows)))
		for _, row := range f.Rows {
			begin := fmt.Sprintf("%d.%d.%d", row.Ref.Chapter, row.Ref.Line, row.Ref.Word)
			if begin == "0.0.0" {
				begin = "-"
			}
			if row.Sure == 1 {
				begin += "?"
			}
			s, _ := slip.Make(r.Text, r.Cut, row.At)
			l = append(l, begin+": "+strings.Trim(s.Before+" ["+s.Word+"] "+s.After, " "))
		}
	}
	return l
}

// spot is a row of a volume, with its indices, and where it stands.
type spot struct {
	at   [3]int
	head api.Head
	word string
	row  api.Row
}

// spots is all rows of a volume, in its order.
func spots(v api.Volume) []spot {
	var l []spot
	for i, x := range v.Entries {
		for j, f := range x.Forms {
			for k, row := range f.Rows {
				l = append(l, spot{[3]int{i, j, k}, x.Head, f.Word, row})
			}
		}
	}
	return l
}

// times is how often a place is in a volume.
func times(v api.Volume, p api.Place) int {
	n := 0
	for _, s := range spots(v) {
		if s.row.At == p {
			n++
		}
	}
	return n
}

// lacking is all places that a volume has not, twice all that it has more than once.
func lacking(t api.Text, v api.Volume) []api.Place {
	return slices.DeleteFunc(places(t), func(p api.Place) bool { return times(v, p) > 0 })
}

func twice(t api.Text, v api.Volume) []api.Place {
	return slices.DeleteFunc(places(t), func(p api.Place) bool { return times(v, p) < 2 })
}

// wrong is the indices of all rows of a volume that the volume of the records has not under the same head and word.
func wrong(r api.Records, v api.Volume) [][3]int {
	right := spots(volumeOf(r))
	var l [][3]int
	for _, s := range spots(v) {
		is := slices.ContainsFunc(right, func(x spot) bool { return x.head == s.head && x.word == s.word && x.row == s.row })
		if !is {
			l = append(l, s.at)
		}
	}
	return l
}

// found is the indices of the first row that has a place, and whether there is one.
func found(v api.Volume, p api.Place) ([3]int, bool) {
	for _, s := range spots(v) {
		if s.row.At == p {
			return s.at, true
		}
	}
	return [3]int{}, false
}

// dice are numbers that look like chance, the same ones in each run.
type dice uint64

// roll is a number below n.
func (d *dice) roll(n int) int {
	*d = *d*6364136223846793005 + 1442695040888963407
	return int(uint64(*d) >> 33 % uint64(n))
}

// one is one of several things.
func one[T any](d *dice, l ...T) T { return l[d.roll(len(l))] }

// shuffled is a list in any order.
func shuffled[T any](d *dice, l []T) []T {
	l = slices.Clone(l)
	for i := range l {
		j := d.roll(i + 1)
		l[i], l[j] = l[j], l[i]
	}
	return l
}

func (d *dice) word() string { return one(d, "a", "b", "ab", "abb", "bab") }

func (d *dice) head() api.Head { return head(d.word(), uint8(d.roll(2)*d.roll(4))) }

// text is a text in which words come often.
func (d *dice) text() api.Text {
	var chapters []string
	for range 1 + d.roll(3) {
		var lines []string
		for range 1 + d.roll(4) {
			var line []string
			for range 1 + d.roll(6) {
				line = append(line, d.word())
			}
			lines = append(lines, strings.Join(line, " "))
		}
		chapters = append(chapters, strings.Join(lines, "/"))
	}
	return book(chapters...)
}

// copy is a valid copy of a text, with a few readings.
func (d *dice) copy(t api.Text) api.Copy {
	for {
		c := copyOf(d.roll(10000))
		for _, p := range places(t) {
			if d.roll(9) == 0 {
				c.Readings = append(c.Readings, reading(api.ReadPut, p, d.word()))
			}
			switch d.roll(15) {
			case 0:
				c.Readings = append(c.Readings, reading(api.ReadOmit, p, ""))
			case 1:
				c.Readings = append(c.Readings, reading(api.ReadOther, p, d.word()))
			}
		}
		if leaf.CheckCopy(t, c) == api.OK {
			return c
		}
	}
}

// decision is a decision with a Number, about a text.
func (d *dice) decision(t api.Text, number int) api.Decision {
	at := one(d, places(t)...)
	switch d.roll(4) {
	case 0:
		return form(number, d.word(), d.head())
	case 1:
		return only(number, at, d.head())
	case 2:
		if number > 1 {
			return api.Decision{Number: number, Kind: api.DecideVoid, Of: 1 + d.roll(number-1)}
		}
	}
	return api.Decision{Number: number, Kind: api.DecideFrom, Form: d.word(), At: at, To: d.head()}
}

// lexicon is a valid lexicon of a text, with up to so many decisions, in any order, with Numbers that are not above 25.
func (d *dice) lexicon(t api.Text, most int) api.Lexicon {
	var x api.Lexicon
	for range d.roll(3) {
		r := api.Rule{Cut: one(d, "a", "b", "bb"), Put: one(d, "", "ab", "abb"), Least: 1 + d.roll(2)}
		x.Rules = append(x.Rules, r)
	}
	numbers := make([]int, 25)
	for i := range numbers {
		numbers[i] = i + 1
	}
	for _, number := range shuffled(d, numbers)[:d.roll(most+1)] {
		x.Decisions = append(x.Decisions, d.decision(t, number))
	}
	return x
}

// edition is a sound edition of a text, in any order.
func (d *dice) edition(t api.Text) api.Edition {
	e := edition(d.roll(10000))
	for i, c := range t.Chapters {
		for from := 0; from < len(c.Lines); {
			to := from + 1 + d.roll(len(c.Lines)-from)
			more := edition(e.Id, append(slices.Clone(e.Stretches), stretch(i, from, to, one(d, 1, 2, 999), one(d, 1, 4, 8, 996)))...)
			if _, _, err := chart.Clash(t, more); d.roll(4) > 0 && err == api.ErrNone {
				e = more
			}
			from = to
		}
	}
	e.Stretches = shuffled(d, e.Stretches)
	return e
}

// records is valid records, of up to so many copies and decisions.
func (d *dice) records(copies, decisions int) api.Records {
	t := d.text()
	r := api.Records{Text: t, Lexicon: d.lexicon(t, decisions), Edition: d.edition(t), Cut: api.Cut{Width: 12 + d.roll(20), Side: uint8(1 + d.roll(3))}}
	for range d.roll(copies + 1) {
		r.Copies = append(r.Copies, d.copy(t))
	}
	return r
}

// more is valid records, and a decision that may be added to their lexicon.
func (d *dice) more() (api.Records, api.Decision) {
	r := d.records(2, 19)
	for {
		number := 1 + d.roll(26)
		if !slices.ContainsFunc(r.Lexicon.Decisions, func(d api.Decision) bool { return d.Number == number }) {
			return r, d.decision(r.Text, number)
		}
	}
}

// torn is the volume of records in which some rows are changed, taken out, and put in elsewhere.
func (d *dice) torn(r api.Records) api.Volume {
	return edited(volumeOf(r), func(v *api.Volume) {
		for range d.roll(6) {
			x := &v.Entries[d.roll(len(v.Entries))]
			f := &x.Forms[d.roll(len(x.Forms))]
			if len(f.Rows) == 0 {
				continue
			}
			k := d.roll(len(f.Rows))
			switch d.roll(9) {
			case 0:
				f.Rows[k].Sure = uint8(d.roll(4))
			case 1:
				f.Rows[k].Ref.Line = d.roll(6)
			case 2:
				f.Rows[k].At = one(d, append(places(r.Text), noPlaces(r.Text)...)...)
			case 3:
				f.Rows = append(f.Rows, f.Rows[k])
			case 4:
				f.Rows = slices.Delete(f.Rows, k, k+1)
			case 5:
				f.Word = d.word()
			case 6:
				x.Head = d.head()
			case 7:
				v.Entries = append(v.Entries, edited(volume(*x), func(*api.Volume) {}).Entries...)
			case 8:
				y := &v.Entries[d.roll(len(v.Entries))]
				y.Forms = append(y.Forms, formOf(f.Word, f.Rows[k]), formOf(d.word()))
			}
		}
		v.Entries = shuffled(d, v.Entries)
	})
}

// input is arguments for all calls.
type input struct {
	r api.Records
	h api.Head
	x api.Edition
	d api.Decision
	v api.Volume
	p api.Place
}

func (x input) String() string {
	s := fmt.Sprintf("%+v, head %+v, edition %+v, decision %+v, place %+v, volume %+v", x.r, x.h, x.x, x.d, x.p, x.v)
	return s[:min(len(s), 2000)]
}

// outcome is what a call returned: its results, and its error.
type outcome struct {
	call    string
	results []any
	e       api.Errno
}

// all is what all calls return.
func (x input) all() []outcome {
	var l []outcome
	add := func(call string, e api.Errno, results ...any) { l = append(l, outcome{call, results, e}) }
	add("Check", tome.Check(x.r))
	made, e := tome.Make(x.r)
	add("Make", e, made)
	of, e := tome.Of(x.r, x.h)
	add("Of", e, of)
	in, e := tome.In(x.r, x.x)
	add("In", e, in)
	changed, e := tome.Changed(x.r, x.d)
	add("Changed", e, changed)
	lines, e := tome.Print(x.r, x.h)
	add("Print", e, lines)
	rows, open, e := tome.Count(x.v)
	add("Count", e, rows, open)
	i, j, k, e := tome.Find(x.r, x.v, x.p)
	add("Find", e, i, j, k)
	lacks, e := tome.Lacks(x.r, x.v)
	add("Lacks", e, lacks)
	again, e := tome.Twice(x.r, x.v)
	add("Twice", e, again)
	bad, e := tome.Wrong(x.r, x.v)
	add("Wrong", e, bad)
	return l
}

// wantErrors checks the errors of calls that are named, and that no call with an error has a result.
func wantErrors(t *testing.T, x input, e api.Errno, calls ...string) {
	t.Helper()
	for _, o := range x.all() {
		if slices.Contains(calls, o.call) && o.e != e {
			t.Errorf("%s of %v: %v, not %v", o.call, x, o.e, e)
		}
		if o.e != api.OK && slices.ContainsFunc(o.results, func(result any) bool { return !isZero(result) }) {
			t.Errorf("%s of %v: %v, with the results %v", o.call, x, o.e, o.results)
		}
	}
}

// isZero tells whether a result is zero; an empty list is as nil.
func isZero(x any) bool {
	switch x := x.(type) {
	case api.Volume:
		return len(x.Entries) == 0
	case api.Entry:
		return x.Head == api.Head{} && len(x.Forms) == 0
	}
	v := reflect.ValueOf(x)
	return v.IsZero() || v.Kind() == reflect.Slice && v.Len() == 0
}

// wantList checks a list, and that its error is OK.
func wantList[T comparable](t *testing.T, what any, l []T, e api.Errno, want ...T) {
	t.Helper()
	if !slices.Equal(l, want) || e != api.OK {
		t.Errorf("%+v: %v, %v, not %v", what, l, e, want)
	}
}

// wantOne checks a result that is no list, and that its error is OK.
func wantOne[T comparable](t *testing.T, what any, x T, e api.Errno, want T) {
	t.Helper()
	wantList(t, what, []T{x}, e, want)
}

// wantVolume checks a volume, and that its error is OK. No lists of it are empty.
func wantVolume(t *testing.T, what any, v api.Volume, e api.Errno, want api.Volume) {
	t.Helper()
	if !reflect.DeepEqual(v, want) || e != api.OK {
		t.Errorf("%+v: %+v, %v, not %+v", what, v, e, want)
	}
}

func wantEntry(t *testing.T, what any, x api.Entry, e api.Errno, want api.Entry) {
	t.Helper()
	wantVolume(t, what, volume(x), e, volume(want))
}
