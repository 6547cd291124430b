package vote_test

import (
	"math"
	"reflect"
	"slices"
	"strings"
	"testing"

	"postil/api"
	"postil/stem"
	"postil/vote"
)

// far is numbers outside of everything that is allowed, of either sign.
var far = []int{math.MinInt, math.MinInt + 1, math.MinInt32, -2, 10000, math.MaxInt32, math.MaxInt - 1, math.MaxInt}

// noWords is texts that are no words.
var noWords = []string{"", "Sea", "the sea", "sea ", " sea", "`", "{", "é", "\x00", "s\xff", "abcdefghijklm", strings.Repeat("a", 300)}

// long is a word of as many letters as there may be.
const long = "abcdefghijkl"

// calls is the names of all calls, and those of them for which there has to be a truth.
var (
	calls   = []string{"Check", "Count", "Truth", "Open", "Settled", "Wrongs", "Tally", "Ask", "Next", "Decide", "Moot"}
	ofTruth = []string{"Truth", "Open", "Settled", "Wrongs", "Ask", "Next", "Decide", "Moot"}
)

// book is a text of chapters with Ids from 7 down, whose lines are parted by strokes.
func book(chapters ...string) api.Text {
	var t api.Text
	for i, s := range chapters {
		c := api.Chapter{Id: 7 - i}
		for line := range strings.SplitSeq(s, "/") {
			c.Lines = append(c.Lines, strings.Fields(line))
		}
		t.Chapters = append(t.Chapters, c)
	}
	return t
}

func place(chapter, line, word int) api.Place {
	return api.Place{Chapter: chapter, Line: line, Word: word}
}

// places is all places of a text, in order.
func places(t api.Text) []api.Place {
	var l []api.Place
	for c, chapter := range t.Chapters {
		for n, line := range chapter.Lines {
			for w := range line {
				l = append(l, place(c, n, w))
			}
		}
	}
	return l
}

func wordAt(t api.Text, p api.Place) string { return t.Chapters[p.Chapter].Lines[p.Line][p.Word] }

func head(word string, mark uint8) api.Head { return api.Head{Stem: word, Mark: mark} }

func only(number int, at api.Place, to api.Head) api.Decision {
	return api.Decision{Number: number, Kind: api.DecidePlace, At: at, To: to}
}

func form(number int, word string, to api.Head) api.Decision {
	return api.Decision{Number: number, Kind: api.DecideForm, Form: word, To: to}
}

func void(number, of int) api.Decision {
	return api.Decision{Number: number, Kind: api.DecideVoid, Of: of}
}

func question(at api.Place, heads ...api.Head) api.Question {
	return api.Question{At: at, Heads: heads}
}

func voter(id, wrong int, votes ...int) api.Voter {
	return api.Voter{Id: id, Wrong: wrong, Votes: votes}
}

// The heads of the chapter's examples.
var (
	noun = head("sea", api.MarkNoun)
	verb = head("see", api.MarkVerb)
	age  = head("age", api.MarkOther)
	old  = head("old", api.MarkNone)
)

// sample is the poll of the chapter's examples, and without it is less one of its voters.
func sample() api.Poll {
	t := book("the sea is old/old the sea", "sea and sea")
	t.Chapters[1].Id = 3
	return api.Poll{
		Text:      t,
		Lexicon:   api.Lexicon{Decisions: []api.Decision{only(1, place(1, 0, 2), verb)}},
		Questions: []api.Question{question(place(0, 0, 1), noun, verb), question(place(0, 0, 3), age, old), question(place(1, 0, 0), noun, verb)},
		Voters:    []api.Voter{voter(0, 0, -1, 1, -1), voter(1, 1, 0, 0, 0), voter(2, 1, 0, -1, 1)},
	}
}

func without(p api.Poll, n int) api.Poll {
	p.Voters = slices.Concat(p.Voters[:n], p.Voters[n+1:])
	return p
}

// with is a poll with more voters.
func with(p api.Poll, l ...api.Voter) api.Poll {
	p.Voters = slices.Concat(p.Voters, l)
	return p
}

// asking is a poll with so many heads of each question, which are about the first places of a text, and with voters.
func asking(heads []int, l ...api.Voter) api.Poll {
	p := api.Poll{Text: book("a b c d e f")}
	for n, many := range heads {
		p.Questions = append(p.Questions, question(place(0, 0, n), []api.Head{head("x", 0), head("x", 1), head("y", 0)}[:many]...))
	}
	return with(p, l...)
}

// falsePoll is a poll of which there is no truth.
func falsePoll() api.Poll { return with(sample(), voter(9, 0, 1, 1, 1), voter(8, 0, 0, 0, 0)) }

// lists is all lists with a head of each question, in order.
func lists(p api.Poll) [][]int {
	all := [][]int{nil}
	for _, q := range p.Questions {
		var longer [][]int
		for _, l := range all {
			for n := range q.Heads {
				longer = append(longer, append(slices.Clone(l), n))
			}
		}
		all = longer
	}
	return all
}

// wrongOf is in how many questions a voter voted for other heads than these.
func wrongOf(v api.Voter, heads []int) int {
	n := 0
	for i, vote := range v.Votes {
		if vote != -1 && vote != heads[i] {
			n++
		}
	}
	return n
}

// truths is all truths of a poll, in order, by the word of the document.
func truths(p api.Poll) [][]int {
	var l [][]int
	for _, heads := range lists(p) {
		if !slices.ContainsFunc(p.Voters, func(v api.Voter) bool { return wrongOf(v, heads) > v.Wrong }) {
			l = append(l, heads)
		}
	}
	return l
}

// left is the truths in which a question has a head.
func left(l [][]int, question, head int) [][]int {
	return slices.DeleteFunc(slices.Clone(l), func(heads []int) bool { return heads[question] != head })
}

// openOf is all heads that a question has in some truth, in order.
func openOf(p api.Poll, question int) []int {
	var l []int
	for n := range p.Questions[question].Heads {
		if len(left(truths(p), question, n)) > 0 {
			l = append(l, n)
		}
	}
	return l
}

// settledOf is the head of each question that has one only, or -1.
func settledOf(p api.Poll) []int {
	var l []int
	for question := range p.Questions {
		if open := openOf(p, question); len(open) == 1 {
			l = append(l, open[0])
		} else {
			l = append(l, -1)
		}
	}
	return l
}

// tellApart tells whether the answers to some questions leave one truth, whatever they are.
func tellApart(l [][]int, questions []int) bool {
	for i, a := range l {
		for _, b := range l[:i] {
			if !slices.ContainsFunc(questions, func(q int) bool { return a[q] != b[q] }) {
				return false
			}
		}
	}
	return true
}

// choices is all lists of so many questions, in order.
func choices(many, from, questions int) [][]int {
	if many == 0 {
		return [][]int{nil}
	}
	var l [][]int
	for q := from; q < questions; q++ {
		for _, more := range choices(many-1, q+1, questions) {
			l = append(l, append([]int{q}, more...))
		}
	}
	return l
}

// askOf is the first of the shortest lists of questions that have to be asked.
func askOf(p api.Poll) []int {
	all := truths(p)
	for many := 0; ; many++ {
		for _, l := range choices(many, 0, len(p.Questions)) {
			if tellApart(all, l) {
				return l
			}
		}
	}
}

// worst is how many truths an answer to a question leaves at most.
func worst(p api.Poll, question int) int {
	n := 0
	for h := range p.Questions[question].Heads {
		n = max(n, len(left(truths(p), question, h)))
	}
	return n
}

// nextOf is the question that is to be asked next, or -1 if all are settled.
func nextOf(p api.Poll) int {
	next := -1
	for q, h := range settledOf(p) {
		if h < 0 && (next < 0 || worst(p, q) < worst(p, next)) {
			next = q
		}
	}
	return next
}

// dice are numbers that look like chance, the same ones in each run.
type dice uint64

// roll is a number below n.
func (d *dice) roll(n int) int {
	*d = *d*6364136223846793005 + 1442695040888963407
	return int(uint64(*d) >> 33 % uint64(n))
}

// one is one of several things.
func one[T any](d *dice, l ...T) T { return l[d.roll(len(l))] }

func (d *dice) word() string { return one(d, "a", "b", "ab", "sea") }

func (d *dice) head() api.Head { return head(d.word(), uint8(d.roll(3))) }

// heads is 2 or 3 heads, in order, of which some are those that the word has by decisions often.
func (d *dice) heads() []api.Head {
	var l []api.Head
	for many := 2 + d.roll(2); len(l) < many; {
		if h := d.head(); !slices.Contains(l, h) {
			l = append(l, h)
		}
	}
	slices.SortFunc(l, func(a, b api.Head) int {
		if a.Stem != b.Stem {
			return strings.Compare(a.Stem, b.Stem)
		}
		return int(a.Mark) - int(b.Mark)
	})
	return l
}

// text is a text of 12 words or more, which come often.
func (d *dice) text() api.Text {
	var chapters []string
	for range 2 {
		var lines []string
		for range 2 + d.roll(2) {
			var line []string
			for range 3 + d.roll(2) {
				line = append(line, d.word())
			}
			lines = append(lines, strings.Join(line, " "))
		}
		chapters = append(chapters, strings.Join(lines, "/"))
	}
	return book(chapters...)
}

// lexicon is a valid lexicon of a text, with decisions in any order.
func (d *dice) lexicon(t api.Text) api.Lexicon {
	var x api.Lexicon
	if d.roll(2) == 0 {
		x.Rules = []api.Rule{{Cut: "b", Put: one(d, "", "a"), Least: 1}}
	}
	for number := range d.roll(5) {
		at := one(d, places(t)...)
		decisions := []api.Decision{form(2*number+3, d.word(), d.head()), only(2*number+3, at, d.head()), {Number: 2*number + 3, Kind: api.DecideFrom, Form: wordAt(t, at), At: at, To: d.head()}, void(2*number+3, 2*number+1)}
		x.Decisions = append(x.Decisions, one(d, decisions...))
	}
	if d.roll(2) == 0 {
		slices.Reverse(x.Decisions)
	}
	return x
}

// poll is a poll with up to so many questions and voters.
func (d *dice) poll(questions, voters int) api.Poll {
	p := api.Poll{Text: d.text()}
	p.Lexicon = d.lexicon(p.Text)
	l := places(p.Text)
	for many := d.roll(questions + 1); many > 0; many-- {
		n := d.roll(len(l) - many + 1)
		p.Questions = append(p.Questions, question(l[n], d.heads()...))
		l = l[n+1:]
	}
	for id := range d.roll(voters + 1) {
		p.Voters = append(p.Voters, d.voter(p, 5*id%7))
	}
	return p
}

// voter is a voter of a poll.
func (d *dice) voter(p api.Poll, id int) api.Voter {
	v := api.Voter{Id: id, Wrong: d.roll(len(p.Questions) + 1)}
	for _, q := range p.Questions {
		v.Votes = append(v.Votes, d.roll(len(q.Heads)+1)-1)
	}
	return v
}

// truePoll is a poll of which there is a truth.
func (d *dice) truePoll(questions, voters int) api.Poll {
	for {
		if p := d.poll(questions, voters); len(truths(p)) > 0 {
			return p
		}
	}
}

// input is arguments for all calls.
type input struct {
	p               api.Poll
	question, voter int
}

// outcome is what a call returned: its result, and its error.
type outcome struct {
	call   string
	result any
	e      api.Errno
}

// all is what all calls return.
func (x input) all() []outcome {
	var l []outcome
	add := func(call string, result any, e api.Errno) { l = append(l, outcome{call, result, e}) }
	add("Check", nil, vote.Check(x.p))
	n, e := vote.Count(x.p)
	add("Count", n, e)
	heads, e := vote.Truth(x.p)
	add("Truth", heads, e)
	heads, e = vote.Open(x.p, x.question)
	add("Open", heads, e)
	heads, e = vote.Settled(x.p)
	add("Settled", heads, e)
	wrongs, e := vote.Wrongs(x.p, x.voter)
	add("Wrongs", wrongs, e)
	votes, e := vote.Tally(x.p, x.question)
	add("Tally", votes, e)
	questions, e := vote.Ask(x.p)
	add("Ask", questions, e)
	n, e = vote.Next(x.p)
	add("Next", n, e)
	lexicon, e := vote.Decide(x.p)
	add("Decide", lexicon, e)
	words, e := vote.Moot(x.p)
	add("Moot", words, e)
	return l
}

// wantErrors checks the errors of calls that are named, and that no call with an error has a result.
func wantErrors(t *testing.T, x input, e api.Errno, calls ...string) {
	t.Helper()
	for _, o := range x.all() {
		if slices.Contains(calls, o.call) && o.e != e {
			t.Errorf("%s of %+v: %v, not %v", o.call, x, o.e, e)
		}
		if o.e != api.OK && !isZero(o.result) {
			t.Errorf("%s of %+v: %v, with the result %v", o.call, x, o.e, o.result)
		}
	}
}

func isZero(x any) bool {
	v := reflect.ValueOf(x)
	return x == nil || v.IsZero() || v.Kind() == reflect.Slice && v.Len() == 0
}

// wantList checks a list, and that its error is OK.
func wantList[T comparable](t *testing.T, what any, l []T, e api.Errno, want ...T) {
	t.Helper()
	if !slices.Equal(l, want) || e != api.OK {
		t.Errorf("%+v: %v, %v, not %v", what, l, e, want)
	}
}

// wantOne checks a result that is no list, and that its error is OK.
func wantOne[T comparable](t *testing.T, what any, x T, e api.Errno, want T) {
	t.Helper()
	wantList(t, what, []T{x}, e, want)
}

// headOf is the head of a place of a poll's text by a lexicon.
func headOf(t *testing.T, p api.Poll, x api.Lexicon, at api.Place) api.Head {
	t.Helper()
	h, e := stem.HeadOf(p.Text, x, at)
	if e != api.OK {
		t.Fatal(p, x, at, e)
	}
	return h
}
