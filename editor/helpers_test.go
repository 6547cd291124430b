package editor_test

import (
	"fmt"
	"math"
	"reflect"
	"regexp"
	"slices"
	"strings"
	"testing"

	"postil/api"
	"postil/chart"
	"postil/editor"
	"postil/hand"
	"postil/leaf"
	"postil/sheaf"
	"postil/slip"
	"postil/stem"
	"postil/tome"
)

// far is numbers outside of everything that is allowed, of either sign.
var far = []int{math.MinInt, math.MinInt + 1, math.MinInt32, -1, 10000, math.MaxInt32, math.MaxInt - 1, math.MaxInt}

// noWords is texts that are no words.
var noWords = []string{"", "A", "Sea", "sea1", "1", "/", "`", "{", "s-a", "the sea", " sea", "sea ", "\x00", "s\xff", "é", "abcdefghijklm", strings.Repeat("a", 300)}

// reasons is the words of reasons, as the document has them.
var reasons = map[uint8]string{1: "day", 2: "part", 3: "early", 4: "place", 5: "twice", 6: "doubt", 7: "none", 8: "full", 9: "idle", 10: "open", 11: "printed"}

// linesOf is lines that are parted by strokes: none, if there is nothing.
func linesOf(s string) [][]string {
	var l [][]string
	if s != "" {
		for line := range strings.SplitSeq(s, "/") {
			l = append(l, strings.Fields(line))
		}
	}
	return l
}

// book is a text of chapters with Ids from 7 down, whose lines are parted by strokes.
func book(chapters ...string) api.Text {
	var t api.Text
	for i, s := range chapters {
		t.Chapters = append(t.Chapters, api.Chapter{Id: 7 - i, Lines: linesOf(s)})
	}
	return t
}

// sample is the text of the chapter's examples, five their edition, even their cut, and two their helpers.
func sample() api.Text {
	t := book("the sea is old/old the sea", "sea and sea")
	t.Chapters[1].Id = 3
	return t
}

func five() api.Edition { return edition(5, stretch(0, 0, 1, 1, 1), stretch(0, 1, 2, 2, 5)) }

var even = api.Cut{Width: 14, Side: api.SideEven}

func two() []api.Helper { return []api.Helper{{Id: 1, Post: 2, Rate: 1}, {Id: 2, Post: 5, Rate: 3}} }

// quick is a helper who is back the next day with as many as 20 lines.
func quick() []api.Helper { return []api.Helper{{Id: 1, Post: 0, Rate: 20}} }

func place(chapter, line, word int) api.Place {
	return api.Place{Chapter: chapter, Line: line, Word: word}
}

func head(word string, mark uint8) api.Head { return api.Head{Stem: word, Mark: mark} }

func stretch(chapter, from, to, as, first int) api.Stretch {
	return api.Stretch{Chapter: chapter, From: from, To: to, As: as, First: first}
}

func edition(id int, l ...api.Stretch) api.Edition { return api.Edition{Id: id, Stretches: l} }

func share(from, to, helper, sent int) api.Share {
	return api.Share{From: from, To: to, Helper: helper, Sent: sent}
}

func decided(l ...api.Decision) api.Lexicon { return api.Lexicon{Decisions: l} }

func form(number int, word string, to api.Head) api.Decision {
	return api.Decision{Number: number, Kind: api.DecideForm, Form: word, To: to}
}

// The orders of each kind.
func dayOrder(n int) api.Order { return api.Order{Kind: 1, N: [3]int{n}} }

func sendOrder(from, to, helper int) api.Order {
	return api.Order{Kind: 2, N: [3]int{from, to, helper}}
}

func backOrder(part int, lines string) api.Order {
	return api.Order{Kind: 3, N: [3]int{part}, Lines: linesOf(lines)}
}

func slipOrder(p api.Place) api.Order {
	return api.Order{Kind: 4, N: [3]int{p.Chapter, p.Line, p.Word}}
}

func formOrder(word string, to api.Head) api.Order {
	return api.Order{Kind: 5, Word: word, Stem: to.Stem, Mark: to.Mark}
}

func placeOrder(p api.Place, to api.Head) api.Order {
	return api.Order{Kind: 6, N: [3]int{p.Chapter, p.Line, p.Word}, Stem: to.Stem, Mark: to.Mark}
}

func voidOrder(n int) api.Order { return api.Order{Kind: 7, N: [3]int{n}} }

func saveOrder() api.Order { return api.Order{Kind: 8} }

func undoOrder(n int) api.Order { return api.Order{Kind: 9, N: [3]int{n}} }

func printOrder(h api.Head) api.Order { return api.Order{Kind: 10, Stem: h.Stem, Mark: h.Mark} }

// begun is a new office, of arguments that are right.
func begun(t api.Text, x api.Lexicon, e api.Edition, c api.Cut, l []api.Helper) api.Office {
	o, err := editor.New(t, x, e, c, l)
	if err != api.OK {
		panic(err)
	}
	return o
}

// example is the new office of the chapter's examples.
func example() api.Office { return begun(sample(), api.Lexicon{}, five(), even, two()) }

// played is an office after lines, which are parted by semicolons, and none of which is denied.
func played(o api.Office, lines string) api.Office {
	for line := range strings.SplitSeq(lines, ";") {
		after, answers, _, e := editor.Play(o, []string{strings.TrimSpace(line)})
		if e != api.OK || strings.HasPrefix(answers[0], "denied") {
			panic(fmt.Sprint(line, answers, e))
		}
		o = after
	}
	return o
}

// full is an office that has something of everything: parts, one of which is back, slips, decisions, generations, and a printed head.
func full() api.Office {
	x := api.Lexicon{Rules: []api.Rule{{Cut: "s", Least: 2}, {Cut: "ld", Put: "lde", Least: 1}}}
	return played(begun(sample(), x, five(), even, two()), "send 0 1 0; send 2 2 1; day 7; back 0 the sea is old / old a sea; slip 0 0 1; slip 0 0 3; slip 0 1 0; form old age 3; print age 3; save; place 1 0 2 see 2; save; form is be 2")
}

// with is an office in which something is changed: its lists are others then.
func with(o api.Office, change func(o *api.Office)) api.Office {
	other := reflect.New(reflect.TypeOf(o)).Elem()
	other.Set(cloned(reflect.ValueOf(o)))
	office := other.Interface().(api.Office)
	change(&office)
	return office
}

// cloned is a value with lists of its own, of which none has memory behind its end.
func cloned(v reflect.Value) reflect.Value {
	other := reflect.New(v.Type()).Elem()
	switch v.Kind() {
	case reflect.Slice:
		if v.IsNil() {
			return other
		}
		other.Set(reflect.MakeSlice(v.Type(), v.Len(), v.Len()))
		for i := range v.Len() {
			other.Index(i).Set(cloned(v.Index(i)))
		}
	case reflect.Struct:
		for i := range v.NumField() {
			other.Field(i).Set(cloned(v.Field(i)))
		}
	default:
		other.Set(v)
	}
	return other
}

// places is all places of a text, in order.
func places(t api.Text) []api.Place {
	var l []api.Place
	for c, chapter := range t.Chapters {
		for n, line := range chapter.Lines {
			for w := range line {
				l = append(l, place(c, n, w))
			}
		}
	}
	return l
}

func wordAt(t api.Text, p api.Place) string { return t.Chapters[p.Chapter].Lines[p.Line][p.Word] }

func headAt(o api.Office, x api.Lexicon, p api.Place) api.Head {
	h, e := stem.HeadOf(o.Round.Text, x, p)
	if e != api.OK {
		panic(e)
	}
	return h
}

// linesIn is all lines of a text, one chapter behind the other, and numberOf how many of them are before that of a place.
func linesIn(t api.Text) [][]string {
	var l [][]string
	for _, c := range t.Chapters {
		l = append(l, c.Lines...)
	}
	return l
}

func numberOf(t api.Text, p api.Place) int {
	n := p.Line
	for _, c := range t.Chapters[:p.Chapter] {
		n += len(c.Lines)
	}
	return n
}

// right is the words of a part, as they are in the text, with a slash between two lines.
func right(o api.Office, part int) string {
	var l []string
	s := o.Round.Shares[part]
	for _, line := range linesIn(o.Round.Text)[s.From : s.To+1] {
		l = append(l, strings.Join(line, " "))
	}
	return strings.Join(l, " / ")
}

func records(o api.Office) api.Records {
	return api.Records{Text: o.Round.Text, Lexicon: o.Lexicon, Edition: o.Edition, Cut: o.Cut}
}

// generationsOf is the rows of all generations of a valid shelf, hunk by hunk.
func generationsOf(s api.Shelf) [][]string {
	l := [][]string{s.First}
	for _, h := range s.Changes {
		last := l[len(l)-1]
		l = append(l, slices.Concat(last[:h.At], h.Put, last[h.At+h.Drop:]))
	}
	return l
}

// isOffice tells whether an office is valid, by the word of the document.
func isOffice(o api.Office) bool {
	t := o.Round.Text
	if o.Day < 0 || o.Day > 400 || hand.Check(o.Round) != api.OK {
		return false
	}
	for part, s := range o.Round.Shares {
		if back, _ := hand.Back(o.Round, part); s.Sent > o.Day || o.Round.Sheets[part].Back && back > o.Day {
			return false
		}
	}
	_, _, clash := chart.Clash(t, o.Edition)
	if stem.Check(t, o.Lexicon) != api.OK || chart.Check(t, o.Edition) != api.OK || clash != api.ErrNone || slip.Check(o.Cut) != api.OK {
		return false
	}
	if len(o.Slips) > 60 || len(o.Printed) > 60 || sheaf.CheckShelf(o.Shelf) != api.OK {
		return false
	}
	for n, s := range o.Slips {
		if right, e := slip.Make(t, o.Cut, s.At); e != api.OK || s != right {
			return false
		}
		for _, other := range o.Slips[:n] {
			if s.At == other.At {
				return false
			}
		}
	}
	for _, rows := range generationsOf(o.Shelf) {
		if _, e := sheaf.ToLexicon(t, rows); e != api.OK {
			return false
		}
	}
	for n, h := range o.Printed {
		is := slices.ContainsFunc(places(t), func(p api.Place) bool { return headAt(o, o.Lexicon, p) == h })
		if !is {
			return false
		}
		for _, other := range o.Printed[:n] {
			if other.Stem > h.Stem || other.Stem == h.Stem && other.Mark >= h.Mark {
				return false
			}
		}
	}
	return true
}

// forms is what lines of orders are like, by their kinds.
var forms = func() map[uint8]*regexp.Regexp {
	pieces := strings.NewReplacer("WORD", "[a-z]{1,12}", "NUMBER", "(?:0|[1-9][0-9]{0,3})", "MARK", "[0-3]", "LINE", "[a-z]{1,12}(?: [a-z]{1,12}){0,9}")
	l := map[uint8]*regexp.Regexp{}
	for kind, s := range map[uint8]string{
		1: "day NUMBER", 2: "send NUMBER NUMBER NUMBER", 3: "back NUMBER(?: LINE(?: / LINE)*)?", 4: "slip NUMBER NUMBER NUMBER", 5: "form WORD WORD MARK",
		6: "place NUMBER NUMBER NUMBER WORD MARK", 7: "void NUMBER", 8: "save", 9: "undo NUMBER", 10: "print WORD MARK",
	} {
		l[kind] = regexp.MustCompile(`\A` + pieces.Replace(s) + `\z`)
	}
	return l
}()

// isLine tells whether a line is that of a valid order; one with as many as 30 slashes has too many lines.
func isLine(line string) bool {
	for _, r := range forms {
		if r.MatchString(line) && strings.Count(line, "/") < 30 {
			return true
		}
	}
	return false
}

// lineOf is the line of a valid order.
func lineOf(x api.Order) string {
	n, to := x.N, fmt.Sprintf("%s %d", x.Stem, x.Mark)
	switch x.Kind {
	case 1:
		return fmt.Sprintf("day %d", n[0])
	case 2:
		return fmt.Sprintf("send %d %d %d", n[0], n[1], n[2])
	case 3:
		s := fmt.Sprintf("back %d", n[0])
		between := " "
		for _, line := range x.Lines {
			s += between + strings.Join(line, " ")
			between = " / "
		}
		return s
	case 4:
		return fmt.Sprintf("slip %d %d %d", n[0], n[1], n[2])
	case 5:
		return "form " + x.Word + " " + to
	case 6:
		return fmt.Sprintf("place %d %d %d %s", n[0], n[1], n[2], to)
	case 7:
		return fmt.Sprintf("void %d", n[0])
	case 8:
		return "save"
	case 9:
		return fmt.Sprintf("undo %d", n[0])
	}
	return "print " + to
}

// verdict is what comes of an order: the reason for which it is denied, or 0, the office after it, and its answer.
type verdict struct {
	reason uint8
	after  api.Office
	answer string
}

// judge is the verdict of a valid order, by the word of the document.
func judge(o api.Office, x api.Order) verdict {
	v := verdict{after: with(o, func(*api.Office) {})}
	switch x.Kind {
	case api.OrderDay:
		v.day(x.N[0])
	case api.OrderSend:
		v.send(share(x.N[0], x.N[1], x.N[2], o.Day))
	case api.OrderBack:
		v.back(x.N[0], x.Lines)
	case api.OrderSlip:
		v.slip(place(x.N[0], x.N[1], x.N[2]))
	case api.OrderForm:
		v.decide(api.Decision{Kind: 1, Form: x.Word, To: head(x.Stem, x.Mark)})
	case api.OrderPlace:
		v.decide(api.Decision{Kind: 3, At: place(x.N[0], x.N[1], x.N[2]), To: head(x.Stem, x.Mark)})
	case api.OrderVoid:
		v.decide(api.Decision{Kind: 4, Of: x.N[0]})
	case api.OrderSave:
		v.save()
	case api.OrderUndo:
		v.undo(x.N[0])
	case api.OrderPrint:
		v.print(head(x.Stem, x.Mark))
	}
	if v.reason > 0 {
		return verdict{reason: v.reason, after: o}
	}
	return v
}

func (v *verdict) day(n int) {
	if n <= v.after.Day || n > 400 {
		v.reason = api.ReasonDay
		return
	}
	v.after.Day, v.answer = n, fmt.Sprint("day ", n)
}

func (v *verdict) send(s api.Share) {
	r := &v.after.Round
	r.Shares = append(r.Shares, s)
	slices.SortStableFunc(r.Shares, func(a, b api.Share) int { return a.From - b.From })
	at := 0
	for n, other := range r.Shares {
		if other.From <= s.From {
			at = n
		}
	}
	r.Sheets = append(r.Sheets, api.Sheet{})
	copy(r.Sheets[at+1:], r.Sheets[at:])
	r.Sheets[at] = api.Sheet{}
	if !isOffice(v.after) {
		v.reason = api.ReasonPart
		return
	}
	back, _ := hand.Back(*r, at)
	v.answer = fmt.Sprintf("part %d back %d", at, back)
}

func (v *verdict) back(part int, lines [][]string) {
	r := &v.after.Round
	back, e := hand.Back(*r, part)
	switch {
	case e != api.OK:
		v.reason = api.ReasonPart
		return
	case r.Sheets[part].Back:
		v.reason = api.ReasonTwice
		return
	case back > v.after.Day:
		v.reason = api.ReasonEarly
		return
	}
	r.Sheets[part] = api.Sheet{Back: true, Lines: lines}
	faults, e := hand.Explain(*r, part)
	v.answer = "faults unknown"
	if e == api.OK {
		cost := 0
		for _, f := range faults {
			cost += map[uint8]int{api.FaultSkip: 1, api.FaultRepeat: 1, api.FaultRead: f.Words}[f.Kind]
		}
		v.answer = fmt.Sprint("faults ", cost)
	}
}

// isOpen tells whether a place has no slip.
func isOpen(o api.Office, p api.Place) bool {
	return !slices.ContainsFunc(o.Slips, func(s api.Slip) bool { return s.At == p })
}

// inDoubt tells whether no part that is back, and need not be written again, has the line of a place.
func inDoubt(o api.Office, p api.Place) bool {
	again, _ := hand.Again(o.Round)
	for part, s := range o.Round.Shares {
		if n := numberOf(o.Round.Text, p); s.From <= n && n <= s.To && o.Round.Sheets[part].Back && !slices.Contains(again, part) {
			return false
		}
	}
	return true
}

func (v *verdict) slip(p api.Place) {
	switch {
	case !slices.Contains(places(v.after.Round.Text), p):
		v.reason = api.ReasonPlace
		return
	case !isOpen(v.after, p):
		v.reason = api.ReasonTwice
		return
	case inDoubt(v.after, p):
		v.reason = api.ReasonDoubt
		return
	case len(v.after.Slips) >= 60:
		v.reason = api.ReasonFull
		return
	}
	s, _ := slip.Make(v.after.Round.Text, v.after.Cut, p)
	v.after.Slips = append(v.after.Slips, s)
	v.answer = fmt.Sprint("slip ", len(v.after.Slips))
}

func (v *verdict) decide(d api.Decision) {
	t, x := v.after.Round.Text, v.after.Lexicon
	if d.Kind == api.DecidePlace && !slices.Contains(places(t), d.At) {
		v.reason = api.ReasonPlace
		return
	}
	if standing, _ := stem.Standing(t, x); d.Kind == api.DecideVoid && !slices.Contains(standing, d.Of) {
		v.reason = api.ReasonNone
		return
	}
	for _, other := range x.Decisions {
		d.Number = max(d.Number, other.Number)
	}
	d.Number++
	if len(x.Decisions) >= 20 || d.Number > 999 {
		v.reason = api.ReasonFull
		return
	}
	more, e := stem.Add(t, x, d)
	if e != api.OK {
		panic(e)
	}
	changes := 0
	for _, p := range places(t) {
		if headAt(v.after, x, p) != headAt(v.after, more, p) {
			changes++
		}
	}
	after := v.after
	after.Lexicon = more
	for _, h := range v.after.Printed {
		a, e := tome.Of(records(v.after), h)
		b, f := tome.Of(records(after), h)
		if e != f || !same(reflect.ValueOf(a), reflect.ValueOf(b)) {
			v.reason = api.ReasonPrinted
			return
		}
	}
	if changes == 0 {
		v.reason = api.ReasonIdle
		return
	}
	v.after = after
	v.answer = fmt.Sprintf("decision %d changes %d", d.Number, changes)
}

func (v *verdict) save() {
	rows, _ := sheaf.OfLexicon(v.after.Round.Text, v.after.Lexicon)
	l := generationsOf(v.after.Shelf)
	switch {
	case slices.Equal(l[len(l)-1], rows):
		v.reason = api.ReasonIdle
		return
	case len(l) >= 12:
		v.reason = api.ReasonFull
		return
	}
	v.after.Shelf, _ = sheaf.Save(v.after.Shelf, rows)
	v.answer = fmt.Sprint("generation ", len(l))
}

func (v *verdict) undo(n int) {
	rows, _ := sheaf.OfLexicon(v.after.Round.Text, v.after.Lexicon)
	l := generationsOf(v.after.Shelf)
	switch {
	case n >= len(l):
		v.reason = api.ReasonNone
		return
	case slices.Equal(l[n], rows):
		v.reason = api.ReasonIdle
		return
	}
	x, _ := sheaf.ToLexicon(v.after.Round.Text, l[n])
	for _, p := range places(v.after.Round.Text) {
		a, b := headAt(v.after, v.after.Lexicon, p), headAt(v.after, x, p)
		if a != b && (slices.Contains(v.after.Printed, a) || slices.Contains(v.after.Printed, b)) {
			v.reason = api.ReasonPrinted
			return
		}
	}
	v.after.Lexicon = x
	v.answer = fmt.Sprint("generation ", n)
}

func (v *verdict) print(h api.Head) {
	there, open := 0, 0
	for _, p := range places(v.after.Round.Text) {
		if headAt(v.after, v.after.Lexicon, p) == h {
			there++
			if isOpen(v.after, p) {
				open++
			}
		}
	}
	switch {
	case there == 0:
		v.reason = api.ReasonNone
		return
	case slices.Contains(v.after.Printed, h):
		v.reason = api.ReasonTwice
		return
	case open > 0:
		v.reason = api.ReasonOpen
		return
	case len(v.after.Printed) >= 60:
		v.reason = api.ReasonFull
		return
	}
	v.after.Printed = append(v.after.Printed, h)
	slices.SortFunc(v.after.Printed, func(a, b api.Head) int {
		return 10*strings.Compare(a.Stem, b.Stem) + int(a.Mark) - int(b.Mark)
	})
	lines, _ := tome.Print(records(v.after), h)
	v.answer = fmt.Sprint("lines ", len(lines))
}

// volumeOf is the volume of an office, by the word of the document.
func volumeOf(o api.Office) string {
	var all []string
	for _, h := range o.Printed {
		l, e := tome.Print(records(o), h)
		if e != api.OK {
			panic(e)
		}
		all = append(all, l...)
	}
	if len(all) == 0 {
		return ""
	}
	return strings.Join(all, "\n") + "\n"
}

// sheafOf is the bytes of rows.
func sheafOf(rows []string) string {
	s, e := sheaf.Write(rows)
	if e != api.OK {
		panic(e)
	}
	return s
}

// filesOf is the files of a year, by the word of the document.
func filesOf(o api.Office, l []string) []string {
	text, _ := sheaf.OfText(o.Round.Text)
	x, _ := sheaf.OfLexicon(o.Round.Text, o.Lexicon)
	return []string{sheafOf(text), sheafOf(x), sheafOf(l)}
}

// dice are numbers that look like chance, the same ones in each run.
type dice uint64

// roll is a number below n.
func (d *dice) roll(n int) int {
	*d = *d*6364136223846793005 + 1442695040888963407
	return int(uint64(*d) >> 33 % uint64(n))
}

// one is one of several things.
func one[T any](d *dice, l ...T) T { return l[d.roll(len(l))] }

// text is a small text of few words.
func (d *dice) text() api.Text {
	var t api.Text
	for i := range 1 + d.roll(2) {
		c := api.Chapter{Id: 9 - i}
		for range 1 + d.roll(3) {
			var line []string
			for range 1 + d.roll(3) {
				line = append(line, d.word())
			}
			c.Lines = append(c.Lines, line)
		}
		t.Chapters = append(t.Chapters, c)
	}
	return t
}

func (d *dice) word() string { return one(d, "old", "sea", "seas", "see", "is") }

func (d *dice) head() api.Head {
	return head(one(d, "old", "olde", "sea", "see", "is"), uint8(d.roll(2)))
}

// lexicon is a lexicon of a text, with its decisions in any order.
func (d *dice) lexicon(t api.Text) api.Lexicon {
	var x api.Lexicon
	for range d.roll(3) {
		x.Rules = append(x.Rules, one(d, api.Rule{Cut: "s", Least: 3}, api.Rule{Cut: "ld", Put: "lde", Least: 1}))
	}
	for n := range d.roll(4) {
		number := 9 - 2*n
		x.Decisions = append(x.Decisions, one(d, form(number, d.word(), d.head()), api.Decision{Number: number, Kind: api.DecidePlace, At: one(d, places(t)...), To: d.head()}, api.Decision{Number: number, Kind: api.DecideVoid, Of: 1 + d.roll(number-1+n/4)}))
	}
	if stem.Check(t, x) != api.OK {
		return api.Lexicon{}
	}
	return x
}

// edition is an edition that has some of the lines of a text.
func (d *dice) edition(t api.Text) api.Edition {
	x := edition(d.roll(10))
	for i, c := range t.Chapters {
		for n := range c.Lines {
			if d.roll(3) > 0 {
				x.Stretches = append(x.Stretches, stretch(i, n, n+1, 1+i, 5+n))
			}
		}
	}
	return x
}

// office is a new office.
func (d *dice) office() api.Office {
	t := d.text()
	var helpers []api.Helper
	for i := range 1 + d.roll(3) {
		helpers = append(helpers, api.Helper{Id: i, Post: d.roll(3), Rate: 1 + d.roll(3)})
	}
	return begun(t, d.lexicon(t), d.edition(t), api.Cut{Width: 12 + d.roll(10), Side: uint8(1 + d.roll(3))}, helpers)
}

// place is a place of an office, for the most part.
func (d *dice) place(o api.Office) api.Place {
	if d.roll(20) == 0 {
		return place(d.roll(3), d.roll(4), d.roll(4))
	}
	return one(d, places(o.Round.Text)...)
}

// order is an order that may be done by an office, or be denied.
func (d *dice) order(o api.Office) api.Order {
	lines := len(linesIn(o.Round.Text))
	switch d.roll(16) {
	case 0, 1:
		return dayOrder(o.Day + d.roll(6))
	case 2, 3:
		from := d.roll(lines)
		return sendOrder(from, from+d.roll(lines), d.roll(len(o.Round.Helpers)))
	case 4, 5:
		return d.backOrder(o)
	case 6, 7, 8, 9:
		return slipOrder(d.place(o))
	case 10:
		return formOrder(d.word(), d.head())
	case 11:
		return placeOrder(d.place(o), d.head())
	case 12:
		l := []int{d.roll(10)}
		for _, x := range o.Lexicon.Decisions {
			l = append(l, x.Number)
		}
		return voidOrder(one(d, l...))
	case 13:
		return one(d, saveOrder(), undoOrder(d.roll(3)))
	}
	return printOrder(one(d, d.head(), headAt(o, o.Lexicon, one(d, places(o.Round.Text)...))))
}

// backOrder is a part that comes back: without a fault, for the most part.
func (d *dice) backOrder(o api.Office) api.Order {
	part := d.roll(len(o.Round.Shares) + 1)
	if part == len(o.Round.Shares) {
		return backOrder(part, "sea/sea")
	}
	lines := strings.Split(right(o, part), " / ")
	if d.roll(4) == 0 {
		n := d.roll(len(lines))
		lines = slices.Concat(lines[:n], one(d, nil, []string{lines[n], lines[n]}, []string{"sea"}, []string{lines[n] + " is"}), lines[n+1:])
	}
	return backOrder(part, strings.Join(lines, "/"))
}

// wantDone checks what comes of an order: that it is what the document says.
func wantDone(t *testing.T, o api.Office, x api.Order) verdict {
	t.Helper()
	want := judge(o, x)
	reason, e := editor.Reason(o, x)
	wantOne(t, lineOf(x), reason, e, want.reason)
	after, answer, e := editor.Do(o, x)
	if want.reason == 0 {
		wantOne(t, lineOf(x), answer, e, want.answer)
	} else if answer != reasons[want.reason] || e != api.ErrDenied {
		t.Errorf("%s: %q, %v, not %q", lineOf(x), answer, e, reasons[want.reason])
	}
	if !alike(after, want.after) {
		t.Errorf("%s: %+v, not %+v", lineOf(x), after, want.after)
	}
	if e := editor.Check(after); e != api.OK {
		t.Errorf("%s: %v", lineOf(x), e)
	}
	return want
}

// answerOf is what play answers to a verdict.
func answerOf(v verdict) string {
	if v.reason > 0 {
		return "denied: " + reasons[v.reason]
	}
	return v.answer
}

// wantReason checks the reason for which an office denies an order (0, if it does not), and what comes of it.
func wantReason(t *testing.T, o api.Office, x api.Order, want uint8) {
	t.Helper()
	if v := wantDone(t, o, x); v.reason != want {
		t.Errorf("%s: %d, not %d", lineOf(x), v.reason, want)
	}
}

// wantList checks a list that a call returned, and that its error is OK; an empty list is as nil.
func wantList[T comparable](t *testing.T, what any, l []T, e api.Errno, want ...T) {
	t.Helper()
	if !slices.Equal(l, want) || e != api.OK {
		t.Errorf("%+v: %+v, %v, not %+v", what, l, e, want)
	}
}

// wantOne checks a result that is no list, and that its error is OK.
func wantOne[T comparable](t *testing.T, what any, x T, e api.Errno, want T) {
	t.Helper()
	if x != want || e != api.OK {
		t.Errorf("%+v: %v, %v, not %v", what, x, e, want)
	}
}

// alike tells whether two offices are the same.
func alike(a, b api.Office) bool { return same(reflect.ValueOf(a), reflect.ValueOf(b)) }

func reflectOf(x any) reflect.Value { return reflect.ValueOf(x) }

// same tells whether two values of a type are the same; empty lists are as nil.
func same(a, b reflect.Value) bool {
	switch a.Kind() {
	case reflect.Slice:
		for i := range min(a.Len(), b.Len()) {
			if !same(a.Index(i), b.Index(i)) {
				return false
			}
		}
		return a.Len() == b.Len()
	case reflect.Struct:
		for i := range a.NumField() {
			if !same(a.Field(i), b.Field(i)) {
				return false
			}
		}
		return true
	}
	return a.Equal(b)
}

// words is how many words a text has.
func words(t api.Text) int {
	n, _ := leaf.Words(t)
	return n
}
