package stem_test

import (
	"slices"
	"strings"
	"testing"

	"postil/api"
	"postil/leaf"
	"postil/stem"
)

// badRules is rules that are not valid, each for one reason.
func badRules() []api.Rule {
	l := []api.Rule{rule("s", "s", 1), rule("ld", "ld", 1), rule(long, long, 1), rule("s", "", 0), rule("s", "", 13), rule("s", strings.Repeat("a", 13), 1), rule("s", strings.Repeat("a", 300), 1)}
	for _, s := range noWords {
		l = append(l, rule(s, "a", 1))
		if s != "" {
			l = append(l, rule("s", s, 1))
		}
	}
	for _, n := range far {
		l = append(l, rule("s", "", n))
	}
	return l
}

// badDecisions is decisions that are not valid, each for one reason, with Numbers above 500 where these are not the reason.
func badDecisions() []api.Decision {
	noun := head("sea", api.MarkNoun)
	base := []api.Decision{form(501, "sea", noun), from(502, "sea", place(0, 1, 0), noun), only(503, place(0, 1, 0), noun), void(504, 1)}
	var l []api.Decision
	change := func(d api.Decision, by func(d *api.Decision)) {
		by(&d)
		l = append(l, d)
	}
	for _, d := range base {
		for _, n := range append(far, 0) {
			change(d, func(d *api.Decision) { d.Number = n })
		}
		for _, kind := range []uint8{0, 5, 6, 128, 254, 255} {
			change(d, func(d *api.Decision) { d.Kind = kind })
		}
	}
	for _, d := range base[:3] {
		for _, s := range noWords {
			change(d, func(d *api.Decision) { d.To.Stem = s })
		}
		for _, mark := range []uint8{4, 5, 128, 255} {
			change(d, func(d *api.Decision) { d.To.Mark = mark })
		}
		for _, n := range append(far, 1, 500) {
			change(d, func(d *api.Decision) { d.Of = n })
		}
	}
	for _, d := range base[:2] {
		for _, s := range noWords {
			change(d, func(d *api.Decision) { d.Form = s })
		}
	}
	for _, d := range base[1:3] {
		for _, p := range noPlaces(sample()) {
			change(d, func(d *api.Decision) { d.At = p })
		}
	}
	for _, d := range []api.Decision{base[0], base[3]} {
		for _, p := range append(noPlaces(sample()), places(sample())[1:]...) {
			change(d, func(d *api.Decision) { d.At = p })
		}
	}
	for _, d := range base[2:] {
		for _, s := range append(noWords[1:], "sea", "x") {
			change(d, func(d *api.Decision) { d.Form = s })
		}
	}
	for _, h := range []api.Head{noun, head("sea", 0), head("", 1), head("", 255), head("Sea", 0)} {
		change(base[3], func(d *api.Decision) { d.To = h })
	}
	for _, n := range append(far, 0, 504, 505) {
		change(base[3], func(d *api.Decision) { d.Of = n })
	}
	return append(l, api.Decision{}, api.Decision{Number: 1}, void(1, 1), void(1, 0), void(2, 2))
}

// goodDecisions is decisions of each kind that are valid, at the ends of what is allowed.
func goodDecisions() []api.Decision {
	return []api.Decision{
		form(1, "a", head("a", api.MarkNone)),
		form(999, long, head(long, api.MarkOther)),
		form(500, "nowhere", head("z", api.MarkVerb)),
		from(1, "sea", place(0, 0, 0), head("sea", api.MarkNoun)),
		from(999, long, place(1, 0, 2), head(long, api.MarkOther)),
		from(500, "the", place(1, 0, 0), head("az", api.MarkNone)),
		only(1, place(0, 0, 0), head("a", api.MarkNone)),
		only(999, place(1, 0, 2), head(long, api.MarkOther)),
		only(500, place(0, 1, 2), head("a", api.MarkVerb)),
		void(2, 1),
		void(999, 998),
		void(999, 1),
	}
}

// manyDecisions is so many decisions, with Numbers from 1 on.
func manyDecisions(n int) []api.Decision {
	var l []api.Decision
	for i := range n {
		l = append(l, form(i+1, "sea", head("sea", api.MarkNoun)))
	}
	return l
}

// P4.1: lexicons that are valid.
func TestValidLexicons(t *testing.T) {
	l := []api.Lexicon{
		{},
		sampleLexicon(),
		ruled(rule("s", "", 1)),
		ruled(rule("s", "", 12)),
		ruled(rule("a", "z", 1), rule("z", "a", 1)),
		ruled(rule(long, "", 12)),
		ruled(rule("s", long, 12)),
		ruled(rule("a", "aa", 1)),
		ruled(slices.Repeat([]api.Rule{rule("s", "", 1)}, 12)...),
		decided(manyDecisions(20)...),
		decided(void(3, 2), void(2, 1)),
		decided(void(999, 500)),
		decided(void(5, 3), void(4, 3), form(3, "sea", head("sea", 0))),
	}
	for _, d := range goodDecisions() {
		l = append(l, decided(d))
	}
	for _, x := range l {
		if e := stem.Check(sample(), x); e != api.OK {
			t.Errorf("%v: %v", x, e)
		}
	}
}

// P4.1: rules that are not valid, and too many.
func TestBadRules(t *testing.T) {
	good := rule("s", "", 1)
	l := [][]api.Rule{slices.Repeat([]api.Rule{good}, 13), slices.Repeat([]api.Rule{good}, 1000)}
	for _, r := range badRules() {
		l = append(l, []api.Rule{r}, []api.Rule{r, good}, []api.Rule{good, good, r})
	}
	for _, rules := range l {
		x := sampleLexicon()
		x.Rules = rules
		wantAllErrors(t, input{t: sample(), x: x}, api.ErrLexicon)
	}
}

// P4.1: decisions that are not valid, too many, and with the same Number.
func TestBadDecisions(t *testing.T) {
	a, b := form(7, "sea", head("sea", 0)), only(7, place(0, 0, 0), head("sea", 0))
	l := [][]api.Decision{manyDecisions(21), manyDecisions(1000), {a, a}, {a, b}, {a, form(8, "sea", head("sea", 0)), b}, {void(7, 1), a}, {form(9, "a", head("a", 0)), void(2, 1), form(9, "b", head("b", 0))}}
	good := form(1, "sea", head("sea", 0))
	for _, d := range badDecisions() {
		l = append(l, []api.Decision{d})
		if d.Number != 1 {
			l = append(l, []api.Decision{d, good}, []api.Decision{good, d})
		}
	}
	for _, decisions := range l {
		wantAllErrors(t, input{t: sample(), x: decided(decisions...)}, api.ErrLexicon)
	}
}

// P4.1: leaf.Check's error of the text goes ahead of all others.
func TestBadTexts(t *testing.T) {
	same := sample()
	same.Chapters[1].Id = 7
	for _, base := range []api.Text{{}, same, book("the Sea"), book("the sea/"), book("a b c d e f g h i j k"), book("a/a/a/a/a/a/a/a/a/a/a"), book("a", "a", "a", "a", "a", "a", "a"), book("abcdefghijklm")} {
		if e := leaf.Check(base); e != api.ErrText {
			t.Errorf("%v: %v", base, e)
		}
		for _, x := range []api.Lexicon{{}, sampleLexicon(), ruled(rule("", "", 0)), decided(manyDecisions(20)...), decided(api.Decision{})} {
			wantAllErrors(t, input{t: base, x: x, word: "sea", h: head("sea", 0), d: form(30, "sea", head("sea", 0))}, api.ErrText)
			wantAllErrors(t, input{t: base, x: x, p: place(9, 9, 9)}, api.ErrText)
		}
	}
}

// P4.1 to P4.3: ErrArg of what is no word, and no head, ErrPlace of what is no place, ErrNone of heads that no place has.
func TestBadArguments(t *testing.T) {
	x := input{t: sample(), x: sampleLexicon()}
	for _, s := range noWords {
		x.word, x.h = s, head(s, api.MarkNone)
		wantErrors(t, x, api.ErrArg, "Steps", "Under", "Forms")
	}
	for _, mark := range []uint8{4, 5, 128, 255} {
		x.h = head("sea", mark)
		wantErrors(t, x, api.ErrArg, "Under", "Forms")
	}
	for _, p := range noPlaces(sample()) {
		x.p = p
		wantErrors(t, x, api.ErrPlace, "HeadOf", "By")
	}
	for _, h := range []api.Head{head("sea", 0), head("sea", 2), head("sea", 3), head("old", 0), head("olde", 3), head("nowhere", 0), head(long, 1)} {
		x.h = h
		wantErrors(t, x, api.ErrNone, "Under", "Forms")
	}
}

// P4.5: ErrFull, then ErrDecision.
func TestErrorsOfAdd(t *testing.T) {
	x := input{t: sample(), x: sampleLexicon()}
	full := input{t: sample(), x: decided(manyDecisions(20)...)}
	for _, d := range badDecisions() {
		x.d, full.d = d, d
		wantErrors(t, x, api.ErrDecision, "Add", "Changes")
		wantErrors(t, full, api.ErrFull, "Add", "Changes")
	}
	for _, d := range goodDecisions() {
		full.d = d
		wantErrors(t, full, api.ErrFull, "Add", "Changes")
		x.d = d
		if d.Number == 1 {
			d.Number = 3
			x.d = d
		}
		switch d.Number {
		case 2, 3:
			// There is a decision with this Number.
			wantErrors(t, x, api.ErrDecision, "Add", "Changes")
		default:
			wantErrors(t, x, api.OK, "Add", "Changes")
		}
	}
	x.x = decided(manyDecisions(19)...)
	x.d = form(20, "sea", head("sea", 0))
	wantErrors(t, x, api.OK, "Add", "Changes")
}
