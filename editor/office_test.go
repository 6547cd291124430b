package editor_test

import (
	"fmt"
	"slices"
	"strings"
	"testing"

	"postil/api"
	"postil/editor"
	"postil/slip"
	"postil/stem"
)

// withOffice is the names of all calls with an office.
var withOffice = []string{"Check", "Reason", "Do", "Play", "Progress", "Waiting", "Volume", "Pack"}

// wide is an office with a text of 70 words, each of them another one, which has all slips and printed heads that there may be, and all of whose parts are back.
func wide() api.Office {
	var lines []string
	for n := range 7 {
		var l []string
		for w := range 10 {
			l = append(l, string([]byte{'a' + byte(n), 'a' + byte(w)}))
		}
		lines = append(lines, strings.Join(l, " "))
	}
	o := played(begun(book(strings.Join(lines, "/")), api.Lexicon{}, api.Edition{}, even, quick()), "send 0 6 0; day 1; back 0 "+strings.Join(lines, " / "))
	o.Slips, _ = slip.All(o.Round.Text, o.Cut)
	o.Slips = o.Slips[:60]
	o.Printed, _ = stem.Heads(o.Round.Text, o.Lexicon)
	o.Printed = o.Printed[:60]
	return o
}

// aged is an office whose shelf has all generations that there may be; its lexicon has the rows of the last one.
func aged() api.Office {
	o := example()
	for n := range 11 {
		o = played(o, "form is "+[]string{"be", "is"}[n%2]+" 2; save")
	}
	return o
}

// decider is an office whose lexicon has so many decisions, the last one with a Number.
func decider(decisions, number int) api.Office {
	return with(example(), func(o *api.Office) {
		for n := range decisions {
			o.Lexicon.Decisions = append(o.Lexicon.Decisions, form(number-n, "old", head("age", 3)))
		}
	})
}

// P12.1: what the document allows, up to each end of it.
func TestValidOffices(t *testing.T) {
	for name, o := range map[string]api.Office{
		"the example":             example(),
		"something of everything": full(),
		"wide":                    wide(),
		"aged":                    aged(),
		"all decisions":           decider(20, 999),
		"the day of what is back": with(full(), func(o *api.Office) { o.Day = 6 }),
		"the last day":            with(full(), func(o *api.Office) { o.Day = 400 }),
		"sent on the day":         with(full(), func(o *api.Office) { o.Round.Shares[1].Sent = 7 }),
		"back on the day":         with(full(), func(o *api.Office) { o.Day, o.Round.Sheets[1].Back = 11, true }),
		"other words are back":    with(full(), func(o *api.Office) { o.Round.Sheets[0].Lines = linesOf("a/b/c/d") }),
		"nothing is back":         with(full(), func(o *api.Office) { o.Day, o.Round.Sheets[0] = 0, api.Sheet{} }),
		"no parts":                with(full(), func(o *api.Office) { o.Day, o.Round.Shares, o.Round.Sheets = 0, nil, nil }),
		"no slips":                with(full(), func(o *api.Office) { o.Slips = nil }),
		"slips in any order":      with(full(), func(o *api.Office) { slices.Reverse(o.Slips) }),
		"a slip in doubt": with(full(), func(o *api.Office) {
			s, _ := slip.Make(o.Round.Text, o.Cut, place(1, 0, 2))
			o.Slips = append(o.Slips, s)
		}),
		"decisions in any order":      with(full(), func(o *api.Office) { slices.Reverse(o.Lexicon.Decisions) }),
		"a lexicon of no generation":  with(full(), func(o *api.Office) { o.Lexicon.Decisions[1].Number = 99 }),
		"no stretches":                with(full(), func(o *api.Office) { o.Edition = api.Edition{} }),
		"the zero shelf":              with(full(), func(o *api.Office) { o.Shelf = api.Shelf{} }),
		"a generation without rows":   with(full(), func(o *api.Office) { o.Shelf.Changes[1] = api.Hunk{Drop: 3} }),
		"printed without slips":       with(full(), func(o *api.Office) { o.Slips, o.Printed = nil, []api.Head{head("and", 0), head("the", 0)} }),
		"printed with the same stem":  with(full(), func(o *api.Office) { o.Lexicon, o.Printed = bothMarks(), []api.Head{head("sea", 1), head("sea", 2)} }),
		"printed with a stem at hand": with(full(), func(o *api.Office) { o.Lexicon, o.Printed = longer(), []api.Head{head("sea", 3), head("seal", 0)} }),
	} {
		t.Run(name, func(t *testing.T) {
			wantErrors(t, input{o: o, x: saveOrder()}, withOffice, api.OK, api.ErrDenied)
			if !isOffice(o) {
				t.Error("it is not valid")
			}
		})
	}
}

// bothMarks is a lexicon by which there are two heads with the same stem, and longer one by which there is a head with a stem that begins with another one's.
func bothMarks() api.Lexicon {
	return decided(form(1, "sea", head("sea", 2)), form(2, "the", head("sea", 1)))
}

func longer() api.Lexicon {
	return decided(form(1, "sea", head("seal", 0)), form(2, "the", head("sea", 3)))
}

// P12.1: what the document does not allow, one thing at a time; all calls with an office have this error first.
func TestOfficesThatAreNotValid(t *testing.T) {
	offices := map[string]api.Office{
		"zero":                        {},
		"a day before what is back":   with(full(), func(o *api.Office) { o.Day = 5 }),
		"after the last day":          with(full(), func(o *api.Office) { o.Day = 401 }),
		"sent after the day":          with(full(), func(o *api.Office) { o.Round.Shares[1].Sent = 8 }),
		"back after the day":          with(full(), func(o *api.Office) { o.Round.Sheets[1].Back = true }),
		"back after the day, by one":  with(full(), func(o *api.Office) { o.Day, o.Round.Sheets[1].Back = 10, true }),
		"no chapters":                 with(full(), func(o *api.Office) { o.Round.Text.Chapters = nil }),
		"a word that is none":         with(full(), func(o *api.Office) { o.Round.Text.Chapters[1].Lines[0][1] = "And" }),
		"no helpers":                  with(full(), func(o *api.Office) { o.Round.Helpers = nil }),
		"fewer sheets":                with(full(), func(o *api.Office) { o.Round.Sheets = o.Round.Sheets[:1] }),
		"lines that are not back":     with(full(), func(o *api.Office) { o.Round.Sheets[1].Lines = linesOf("sea") }),
		"a lexicon with a bad rule":   with(full(), func(o *api.Office) { o.Lexicon.Rules[0].Least = 0 }),
		"a lexicon with a bad place":  with(full(), func(o *api.Office) { o.Lexicon.Decisions[1].At.Word = 3 }),
		"the same Number":             with(full(), func(o *api.Office) { o.Lexicon.Decisions[1].Number = 1 }),
		"too many decisions":          decider(21, 999),
		"too great a Number":          decider(1, 1000),
		"an edition that is not":      with(full(), func(o *api.Office) { o.Edition.Stretches[1].To = 3 }),
		"an edition with a bad Id":    with(full(), func(o *api.Office) { o.Edition.Id = -1 }),
		"an edition that clashes":     with(full(), func(o *api.Office) { o.Edition.Stretches[1] = o.Edition.Stretches[0] }),
		"a cut too narrow":            with(full(), func(o *api.Office) { o.Cut.Width, o.Slips = 11, nil }),
		"a cut without a side":        with(full(), func(o *api.Office) { o.Cut.Side, o.Slips = 0, nil }),
		"slips by another cut":        with(full(), func(o *api.Office) { o.Cut.Width = 12 }),
		"a slip of no place":          with(full(), func(o *api.Office) { o.Slips[2].At.Word = 3 }),
		"a slip with another word":    with(full(), func(o *api.Office) { o.Slips[2].Word = "sea" }),
		"a slip with other words":     with(full(), func(o *api.Office) { o.Slips[2].After = "the sea" }),
		"a slip with words before":    with(full(), func(o *api.Office) { o.Slips[2].Before = "" }),
		"a slip that is none":         with(full(), func(o *api.Office) { o.Slips[2].Before = " " }),
		"the same slip twice":         with(full(), func(o *api.Office) { o.Slips[2] = o.Slips[0] }),
		"the same slip once more":     with(full(), func(o *api.Office) { o.Slips = append(o.Slips, o.Slips[1]) }),
		"too many slips":              with(wide(), func(o *api.Office) { o.Slips, _ = slip.All(o.Round.Text, o.Cut); o.Slips = o.Slips[:61] }),
		"a shelf with a bad hunk":     with(full(), func(o *api.Office) { o.Shelf.Changes[1].At = 99 }),
		"too many generations":        with(aged(), func(o *api.Office) { o.Shelf.Changes = append(o.Shelf.Changes, api.Hunk{}) }),
		"rows that are none":          with(full(), func(o *api.Office) { o.Shelf.First[0] = "" }),
		"rows of a text":              with(full(), func(o *api.Office) { o.Shelf = api.Shelf{First: []string{"chapter 7", "line sea"}} }),
		"a first generation of none":  with(full(), func(o *api.Office) { o.Shelf.First[0] = "cut s 13"; o.Shelf.Changes[0] = api.Hunk{Drop: 2} }),
		"a middle generation of none": with(full(), func(o *api.Office) { o.Shelf.Changes[0].Put = []string{"form 1 sea sea 4"} }),
		"a last generation of none":   with(full(), func(o *api.Office) { o.Shelf.Changes[1].Put = []string{"place 3 1 0 3 see 2"} }),
		"printed twice":               with(full(), func(o *api.Office) { o.Printed = append(o.Printed, o.Printed[0]) }),
		"printed in no order":         with(full(), func(o *api.Office) { o.Printed = []api.Head{head("the", 0), head("age", 3)} }),
		"printed in no order of marks": with(full(), func(o *api.Office) {
			o.Lexicon, o.Printed = bothMarks(), []api.Head{head("sea", 2), head("sea", 1)}
		}),
		"printed in an order by marks": with(full(), func(o *api.Office) {
			o.Lexicon, o.Printed = longer(), []api.Head{head("seal", 0), head("sea", 3)}
		}),
		"printed, with another mark":   with(full(), func(o *api.Office) { o.Printed[0].Mark = 2 }),
		"printed, a word of the text":  with(full(), func(o *api.Office) { o.Printed[0] = head("old", 0) }),
		"printed, of a generation":     with(full(), func(o *api.Office) { o.Printed = append(o.Printed, head("is", 0)) }),
		"printed, a head that is none": with(full(), func(o *api.Office) { o.Printed = append(o.Printed, head("", 4)) }),
		"too many printed": with(wide(), func(o *api.Office) {
			o.Printed, _ = stem.Heads(o.Round.Text, o.Lexicon)
			o.Printed = o.Printed[:61]
		}),
	}
	for name, o := range offices {
		t.Run(name, func(t *testing.T) { wantNone(t, o) })
	}
	for _, n := range far {
		for name, change := range map[string]func(o *api.Office){
			"a day":  func(o *api.Office) { o.Day = n },
			"a part": func(o *api.Office) { o.Round.Shares[1].To = n },
			"a hunk": func(o *api.Office) { o.Shelf.Changes[1].Drop = n },
			"a slip": func(o *api.Office) { o.Slips[0].At.Line = n },
		} {
			t.Run(fmt.Sprint(name, n), func(t *testing.T) { wantNone(t, with(full(), change)) })
		}
	}
}

// wantNone checks that an office is none, whatever else is wrong.
func wantNone(t *testing.T, o api.Office) {
	t.Helper()
	for _, x := range []input{{o: o, x: saveOrder()}, {o: o, lines: slices.Repeat([]string{"save"}, 61)}, {o: o, lines: []string{"none"}}} {
		wantErrors(t, x, withOffice, api.ErrOffice)
	}
	if isOffice(o) {
		t.Error("it is valid")
	}
}

// P12.1: a new office, field by field.
func TestNew(t *testing.T) {
	x := decided(form(3, "old", head("age", 3)), form(1, "sea", head("sea", 1)))
	x.Rules = []api.Rule{{Cut: "s", Least: 2}}
	o, e := editor.New(sample(), x, five(), even, two())
	want := api.Office{
		Round:   api.Round{Text: sample(), Helpers: two()},
		Lexicon: x,
		Edition: five(),
		Cut:     even,
		Shelf:   api.Shelf{First: []string{"cut s 2", "form 3 old age 3", "form 1 sea sea 1"}},
	}
	if e != api.OK || !alike(o, want) {
		t.Errorf("%+v, %v, not %+v", o, e, want)
	}
	wantErrors(t, input{o: o, x: saveOrder()}, []string{"Check", "Play", "Progress", "Waiting", "Volume", "Pack"}, api.OK)
}

// P12.1: each error of New, in the order in which they are named.
func TestErrorsOfNew(t *testing.T) {
	right := input{text: sample(), edition: five(), cut: even, helpers: two()}
	for _, wrong := range []struct {
		e      api.Errno
		change func(x *input)
	}{
		{api.ErrOffice, func(x *input) { x.helpers = nil }},
		{api.ErrOffice, func(x *input) { x.helpers = append(two(), two()...) }},
		{api.ErrOffice, func(x *input) { x.helpers = []api.Helper{{Rate: 21}} }},
		{api.ErrOffice, func(x *input) { x.cut.Width = 81 }},
		{api.ErrOffice, func(x *input) { x.cut.Side = 4 }},
		{api.ErrOffice, func(x *input) { x.edition.Id = 10000 }},
		{api.ErrOffice, func(x *input) { x.edition.Stretches = []api.Stretch{stretch(0, 0, 1, 1, 1), stretch(0, 0, 1, 2, 1)} }},
		{api.ErrLexicon, func(x *input) { x.lexicon.Rules = []api.Rule{{}} }},
		{api.ErrLexicon, func(x *input) { x.lexicon.Decisions = []api.Decision{form(0, "sea", head("sea", 1))} }},
		{api.ErrText, func(x *input) { x.text.Chapters = slices.Concat(x.text.Chapters, x.text.Chapters) }},
		{api.ErrText, func(x *input) { x.text = api.Text{} }},
	} {
		x := right
		wrong.change(&x)
		wantErrors(t, x, []string{"New"}, wrong.e)
		// What is wrong before it stays, so that each one goes ahead of all those that are named behind it.
		wrong.change(&right)
		wantErrors(t, right, []string{"New"}, wrong.e)
	}
}

// P12.1: whether an office is valid is what the document says, also if it is torn in any way.
func TestTornOffices(t *testing.T) {
	d := dice(1)
	valid := 0
	for range 2000 {
		o := d.torn(d.walked(d.roll(30)))
		e := editor.Check(o)
		if (e == api.OK) != isOffice(o) || e != api.OK && e != api.ErrOffice {
			t.Errorf("%+v: %v", o, e)
		}
		if e == api.OK {
			valid++
		}
	}
	if valid < 400 || valid > 1600 {
		t.Error(valid)
	}
}

// walked is an office after so many orders.
func (d *dice) walked(n int) api.Office {
	o := d.office()
	for range n {
		o, _, _ = editor.Do(o, d.order(o))
	}
	return o
}

// torn is an office in which one thing is another one, which may be allowed, or not.
func (d *dice) torn(o api.Office) api.Office {
	return with(o, func(o *api.Office) {
		switch d.roll(12) {
		case 0:
			o.Day = max(0, o.Day-d.roll(8))
		case 1:
			if len(o.Round.Sheets) > 0 {
				one(d, elements(o.Round.Sheets)...).Back = true
			}
		case 2:
			if len(o.Round.Shares) > 0 {
				one(d, elements(o.Round.Shares)...).Sent += d.roll(5)
			}
		case 3:
			s, _ := slip.Make(o.Round.Text, o.Cut, d.place(*o))
			o.Slips = append(o.Slips, s)
		case 4:
			o.Cut.Side = uint8(1 + d.roll(3))
		case 5:
			o.Cut.Width = 11 + d.roll(3)
		case 6:
			o.Printed = append(o.Printed, d.head())
		case 7:
			o.Lexicon = d.lexicon(o.Round.Text)
		case 8:
			o.Shelf.Changes = append(o.Shelf.Changes, api.Hunk{At: d.roll(3), Drop: d.roll(2), Put: one(d, nil, []string{"form 20 sea sea 1"}, []string{"cut s 3"})})
		case 9:
			o.Edition = d.edition(o.Round.Text)
			o.Edition.Stretches = append(o.Edition.Stretches, stretch(0, 0, 1, 9, 1))
		case 10:
			o.Round.Text = d.text()
		case 11:
			o.Round.Shares, o.Round.Sheets = append(o.Round.Shares, share(d.roll(6), d.roll(6), 0, o.Day)), append(o.Round.Sheets, api.Sheet{})
		}
	})
}

// elements is the elements of a list, so that they may be changed.
func elements[T any](l []T) []*T {
	var all []*T
	for n := range l {
		all = append(all, &l[n])
	}
	return all
}
