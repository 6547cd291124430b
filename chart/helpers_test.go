package chart_test

import (
	"maps"
	"math"
	"reflect"
	"slices"
	"testing"

	"postil/api"
	"postil/chart"
)

// far is numbers outside of everything that is allowed, of either sign.
var far = []int{math.MinInt, math.MinInt + 1, math.MinInt32, -1, 10000, math.MaxInt32, math.MaxInt - 1, math.MaxInt}

// sample is the text of the chapter's examples, five and six its editions.
func sample() api.Text {
	return api.Text{Chapters: []api.Chapter{
		{Id: 7, Lines: [][]string{{"the", "sea", "is", "old"}, {"old", "the", "sea"}}},
		{Id: 3, Lines: [][]string{{"sea", "and", "sea"}}},
	}}
}

func five() api.Edition { return edition(5, stretch(0, 0, 1, 1, 1), stretch(0, 1, 2, 2, 5)) }

func six() api.Edition { return edition(6, stretch(0, 0, 2, 7, 1), stretch(1, 0, 1, 3, 1)) }

// shaped is a text with lines of so many words: each text is a chapter, each digit a line. No two words are the same.
func shaped(chapters ...string) api.Text {
	var t api.Text
	word := 0
	for i, digits := range chapters {
		c := api.Chapter{Id: 100 - i}
		for _, digit := range digits {
			var line []string
			for range digit - '0' {
				line = append(line, string([]byte{'a' + byte(word/26), 'a' + byte(word%26)}))
				word++
			}
			c.Lines = append(c.Lines, line)
		}
		t.Chapters = append(t.Chapters, c)
	}
	return t
}

func place(chapter, line, word int) api.Place {
	return api.Place{Chapter: chapter, Line: line, Word: word}
}

func ref(chapter, line, word int) api.Ref { return api.Ref{Chapter: chapter, Line: line, Word: word} }

func stretch(chapter, from, to, as, first int) api.Stretch {
	return api.Stretch{Chapter: chapter, From: from, To: to, As: as, First: first}
}

func edition(id int, l ...api.Stretch) api.Edition { return api.Edition{Id: id, Stretches: l} }

func pass(chapter, line, toChapter, toLine, lines int) api.Pass {
	return api.Pass{Chapter: chapter, Line: line, ToChapter: toChapter, ToLine: toLine, Lines: lines}
}

// places is all places of a text, in order.
func places(t api.Text) []api.Place {
	var l []api.Place
	for c, chapter := range t.Chapters {
		for n, line := range chapter.Lines {
			for w := range line {
				l = append(l, place(c, n, w))
			}
		}
	}
	return l
}

// noPlaces is values that are no places of a text.
func noPlaces(t api.Text) []api.Place {
	l := []api.Place{place(len(t.Chapters), 0, 0)}
	for c, chapter := range t.Chapters {
		l = append(l, place(c, len(chapter.Lines), 0))
		for n, line := range chapter.Lines {
			l = append(l, place(c, n, len(line)))
		}
	}
	for _, n := range far {
		l = append(l, place(n, 0, 0), place(0, n, 0), place(0, 0, n), place(n, n, n))
	}
	return l
}

// refs is what the map of a sound edition says, stretch by stretch and line by line.
func refs(t api.Text, e api.Edition) map[api.Place]api.Ref {
	l := map[api.Place]api.Ref{}
	for _, p := range places(t) {
		for _, s := range e.Stretches {
			for n := s.From; n < s.To; n++ {
				if p.Chapter == s.Chapter && p.Line == n {
					l[p] = ref(s.As, s.First+n-s.From, p.Word+1)
				}
			}
		}
	}
	return l
}

// turned is a map the other way round.
func turned(l map[api.Place]api.Ref) map[api.Ref]api.Place {
	back := map[api.Ref]api.Place{}
	for p, r := range l {
		back[r] = p
	}
	return back
}

// fewest is how many stretches a map needs: one for each line that does not go on with the number behind that of the line before it.
func fewest(l map[api.Place]api.Ref) int {
	n := 0
	for p, r := range l {
		before, there := l[place(p.Chapter, p.Line-1, 0)]
		if p.Word == 0 && !(there && before == ref(r.Chapter, r.Line-1, 1)) {
			n++
		}
	}
	return n
}

// around is what is there of a list in order: a thing alone, or the last one before it and the first one behind it.
func around[T comparable](l []T, x T, there func(T) bool) []T {
	if there(x) {
		return []T{x}
	}
	var near []T
	at := slices.Index(l, x)
	for i := at - 1; i >= 0 && len(near) == 0; i-- {
		if there(l[i]) {
			near = append(near, l[i])
		}
	}
	if behind := slices.IndexFunc(l[at+1:], there); behind >= 0 {
		near = append(near, l[at+1+behind])
	}
	return near
}

// grid is all references up to these numbers, in order.
func grid(chapters, lines, words int) []api.Ref {
	var l []api.Ref
	for c := range chapters {
		for n := range lines {
			for w := range words {
				l = append(l, ref(c+1, n+1, w+1))
			}
		}
	}
	return l
}

// dice are numbers that look like chance, the same ones in each run.
type dice uint64

// roll is a number below n.
func (d *dice) roll(n int) int {
	*d = *d*6364136223846793005 + 1442695040888963407
	return int(uint64(*d) >> 33 % uint64(n))
}

func (d *dice) text() api.Text {
	var chapters []string
	for range 1 + d.roll(3) {
		digits := ""
		for range 1 + d.roll(6) {
			digits += string(rune('1' + d.roll(3)))
		}
		chapters = append(chapters, digits)
	}
	return shaped(chapters...)
}

// any is an edition of a text that need not be sound.
func (d *dice) any(t api.Text) api.Edition {
	e := edition(d.roll(10000))
	for range d.roll(7) {
		c := d.roll(len(t.Chapters))
		from := d.roll(len(t.Chapters[c].Lines))
		to := from + 1 + d.roll(len(t.Chapters[c].Lines)-from)
		e.Stretches = append(e.Stretches, stretch(c, from, to, 1+d.roll(4), 1+d.roll(15)))
	}
	return e
}

// sound is a sound edition of a text, in any order: many of its stretches go on where another one ends.
func (d *dice) sound(t api.Text) api.Edition {
	e := edition(d.roll(10000))
	for c, chapter := range t.Chapters {
		as, first := 1, 1
		for from := 0; from < len(chapter.Lines); {
			to := from + 1 + d.roll(min(3, len(chapter.Lines)-from))
			if d.roll(3) > 0 {
				as, first = 1+d.roll(4), 1+d.roll(15)
			}
			s := stretch(c, from, to, as, first)
			if d.roll(5) > 0 && len(e.Stretches) < api.MaxStretches && !slices.ContainsFunc(e.Stretches, func(x api.Stretch) bool { return clash(s, x) }) {
				e.Stretches = append(e.Stretches, s)
			}
			first += to - from
			from = to
		}
	}
	return d.shuffled(e)
}

func (d *dice) shuffled(e api.Edition) api.Edition {
	e.Stretches = slices.Clone(e.Stretches)
	for i := range e.Stretches {
		j := d.roll(i + 1)
		e.Stretches[i], e.Stretches[j] = e.Stretches[j], e.Stretches[i]
	}
	return e
}

// clash tells whether two stretches have a line of the base, or of the edition: line by line.
func clash(a, b api.Stretch) bool {
	for i := range a.To - a.From {
		for j := range b.To - b.From {
			base := a.Chapter == b.Chapter && a.From+i == b.From+j
			if base || a.As == b.As && a.First+i == b.First+j {
				return true
			}
		}
	}
	return false
}

// input is arguments for all calls.
type input struct {
	t                 api.Text
	e, f              api.Edition
	p                 api.Place
	r                 api.Ref
	chapter, line, to int
}

// outcome is what a call returned: its result, and its error.
type outcome struct {
	call   string
	result any
	err    api.Errno
}

// all is what all calls return.
func (x input) all() []outcome {
	var l []outcome
	add := func(call string, result any, err api.Errno) { l = append(l, outcome{call, result, err}) }
	add("Check", nil, chart.Check(x.t, x.e))
	a, b, err := chart.Clash(x.t, x.e)
	add("Clash", [2]int{a, b}, err)
	gaps, err := chart.Gaps(x.t, x.e)
	add("Gaps", gaps, err)
	r, err := chart.Refer(x.t, x.e, x.p)
	add("Refer", r, err)
	p, err := chart.Lead(x.t, x.e, x.r)
	add("Lead", p, err)
	near, err := chart.Near(x.t, x.e, x.p)
	add("Near", near, err)
	near, err = chart.Close(x.t, x.e, x.r)
	add("Close", near, err)
	plain, err := chart.Plain(x.t, x.e)
	add("Plain", plain, err)
	cross, err := chart.Cross(x.t, x.e, x.f)
	add("Cross", cross, err)
	r, err = chart.Turn(x.t, x.e, x.f, x.r)
	add("Turn", r, err)
	split, err := chart.Split(x.t, x.e, x.chapter, x.line, x.to)
	add("Split", split, err)
	joined, err := chart.Join(x.t, x.e, x.chapter, x.to)
	add("Join", joined, err)
	return l
}

// errorsOf is the same error for several calls.
func errorsOf(err api.Errno, calls ...string) map[string]api.Errno {
	l := map[string]api.Errno{}
	for _, call := range calls {
		l[call] = err
	}
	return l
}

// allCalls is the names of all calls: only the first three are also for editions that are not sound.
var allCalls = []string{"Check", "Clash", "Gaps", "Refer", "Lead", "Near", "Close", "Plain", "Cross", "Turn", "Split", "Join"}

// wantErrors checks the errors of calls that are named, and that no call with an error has a result.
func wantErrors(t *testing.T, x input, want map[string]api.Errno) {
	t.Helper()
	for _, o := range x.all() {
		if err, ok := want[o.call]; ok && o.err != err {
			t.Errorf("%s of %+v: %v, not %v", o.call, x, o.err, err)
		}
		if o.err != api.OK && !isZero(o.result) {
			t.Errorf("%s of %+v: %v, with the result %v", o.call, x, o.err, o.result)
		}
	}
}

func isZero(x any) bool {
	if e, ok := x.(api.Edition); ok {
		return e.Id == 0 && len(e.Stretches) == 0
	}
	v := reflect.ValueOf(x)
	return x == nil || v.IsZero() || v.Kind() == reflect.Slice && v.Len() == 0
}

// wantList checks a list, and that its error is OK.
func wantList[T comparable](t *testing.T, what string, l []T, err api.Errno, want ...T) {
	t.Helper()
	if !slices.Equal(l, want) || err != api.OK {
		t.Errorf("%s: %v, %v, not %v", what, l, err, want)
	}
}

// wantEdition checks an edition, and that its error is OK.
func wantEdition(t *testing.T, what string, e api.Edition, err api.Errno, want api.Edition) {
	t.Helper()
	if e.Id != want.Id || !slices.Equal(e.Stretches, want.Stretches) || err != api.OK {
		t.Errorf("%s: %v, %v, not %v", what, e, err, want)
	}
}

// wantMap checks that an edition has a map, with the fewest stretches in the order of the base.
func wantMap(t *testing.T, text api.Text, e api.Edition, want map[api.Place]api.Ref) {
	t.Helper()
	if l := refs(text, e); !maps.Equal(l, want) {
		t.Errorf("%v has the map %v, not %v", e, l, want)
	}
	if len(e.Stretches) != fewest(want) {
		t.Errorf("%v has not %d stretches", e, fewest(want))
	}
	for i := 1; i < len(e.Stretches); i++ {
		a, b := e.Stretches[i-1], e.Stretches[i]
		if a.Chapter > b.Chapter || a.Chapter == b.Chapter && a.From >= b.From {
			t.Errorf("%v is not in the order of the base", e)
		}
	}
	if err := chart.Check(text, e); err != api.OK {
		t.Errorf("%v: %v", e, err)
	}
	if a, b, err := chart.Clash(text, e); err != api.ErrNone {
		t.Errorf("%v: %d and %d clash, %v", e, a, b, err)
	}
}
