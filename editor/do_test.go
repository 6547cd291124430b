package editor_test

import (
	"slices"
	"testing"

	"postil/api"
	"postil/editor"
	"postil/hand"
	"postil/slip"
	"postil/stem"
)

// wantReasons checks the reasons for which an office denies the orders of some lines: 0, if it does not.
func wantReasons(t *testing.T, o api.Office, want map[string]uint8) {
	t.Helper()
	for line, reason := range want {
		x, e := editor.Parse(line)
		if e != api.OK {
			t.Errorf("%q: %v", line, e)
		}
		wantReason(t, o, x, reason)
	}
}

// wantAnswers checks the answers to lines, each one asked of the office as it is.
func wantAnswers(t *testing.T, o api.Office, want map[string]string) {
	t.Helper()
	for line, answer := range want {
		_, answers, _, e := editor.Play(o, []string{line})
		wantList(t, line, answers, e, answer)
	}
}

// P12.3: a day is later than the day, and not behind the last one.
func TestDays(t *testing.T) {
	wantReasons(t, full(), map[string]uint8{"day 0": 1, "day 6": 1, "day 7": 1, "day 8": 0, "day 399": 0, "day 400": 0, "day 401": 1, "day 9999": 1})
	wantReasons(t, example(), map[string]uint8{"day 0": 1, "day 1": 0, "day 400": 0, "day 401": 1})
	last := with(full(), func(o *api.Office) { o.Day = 400 })
	wantReasons(t, last, map[string]uint8{"day 400": 1, "day 401": 1, "day 399": 1})
	wantAnswers(t, full(), map[string]string{"day 8": "day 8", "day 400": "day 400"})
}

// seven is an office of seven lines of one chapter, and of three of another one, of two helpers.
func seven() api.Office {
	return begun(book("a/b/c/d/e/f/g", "h/i/j"), api.Lexicon{}, api.Edition{}, even, []api.Helper{{Id: 1, Post: 2, Rate: 1}, {Id: 2, Post: 0, Rate: 2}})
}

// P12.3: a part is sent if the office is valid with it: it is put where its From is.
func TestParts(t *testing.T) {
	o := played(seven(), "send 2 3 0; send 6 7 1")
	wantAnswers(t, o, map[string]string{
		"send 0 1 1": "part 0 back 1",
		"send 0 0 0": "part 0 back 5",
		"send 4 5 0": "part 1 back 8",
		"send 3 6 1": "part 1 back 2",
		"send 8 9 1": "part 2 back 2",
		"send 8 9 0": "part 2 back 8",
		"send 7 9 1": "part 2 back 3",
		"send 2 4 0": "denied: part",
		"send 6 8 0": "denied: part",
	})
	wantReasons(t, o, map[string]uint8{
		"send 0 2 0": 0, "send 1 2 0": 0, "send 0 3 0": 2, "send 0 4 0": 2, "send 2 2 0": 2, "send 3 3 0": 2, "send 3 7 0": 2, "send 3 6 0": 0, "send 4 4 0": 0, "send 5 4 0": 2,
		"send 9 9 0": 0, "send 9 10 0": 2, "send 10 10 0": 2, "send 9999 9999 0": 2, "send 0 9999 0": 2, "send 4 4 1": 0, "send 4 4 2": 2, "send 4 4 9999": 2,
	})
	// What is put among three parts, of which two share a line.
	o = played(seven(), "send 0 2 0; send 2 4 0")
	wantReasons(t, o, map[string]uint8{"send 1 3 1": 2, "send 3 5 1": 0, "send 1 2 1": 2, "send 4 5 1": 0, "send 2 5 1": 2})
}

// P12.3: a part is sent on the day, with an empty sheet at the same place; all else stays.
func TestPartIsSent(t *testing.T) {
	o := played(seven(), "send 6 7 1; day 3; back 0 g / h")
	after, answer, e := editor.Do(o, sendOrder(2, 3, 0))
	wantOne(t, "send", answer, e, "part 0 back 9")
	want := with(o, func(o *api.Office) {
		o.Round.Shares = []api.Share{share(2, 3, 0, 3), share(6, 7, 1, 0)}
		o.Round.Sheets = []api.Sheet{{}, {Back: true, Lines: linesOf("g/h")}}
	})
	if !alike(after, want) {
		t.Errorf("%+v, not %+v", after, want)
	}
}

// P12.3: there are as many parts as a round may have.
func TestTooManyParts(t *testing.T) {
	o := played(seven(), "send 0 0 0; send 1 1 0; send 2 2 0; send 3 3 0; send 4 4 0; send 5 5 0; send 6 6 0")
	wantReasons(t, o, map[string]uint8{"send 7 7 0": 0})
	wantReasons(t, played(o, "send 7 7 0"), map[string]uint8{"send 8 8 0": 2, "send 9 9 1": 2})
}

// P12.3 and P12.9: no part is sent with which another one could not be back yet that is: helpers write parts in their order.
func TestPartBeforeOneThatIsBack(t *testing.T) {
	o := played(seven(), "send 6 6 0; day 5; back 0 g")
	wantReasons(t, o, map[string]uint8{"send 0 0 0": 2, "send 5 5 0": 2, "send 0 0 1": 0, "send 7 7 0": 0, "send 9 9 0": 0})
	// On a later day it could be.
	wantReasons(t, played(o, "day 10"), map[string]uint8{"send 0 0 0": 2})
	wait := played(seven(), "send 6 6 0; send 8 8 0; day 5; back 0 g")
	wantAnswers(t, wait, map[string]string{"send 7 7 0": "part 1 back 10", "send 9 9 0": "part 2 back 10"})
	wantReasons(t, played(seven(), "send 6 6 0; day 4"), map[string]uint8{"send 0 0 0": 0, "back 0": 3})
	sooner := played(seven(), "send 6 6 0; send 0 0 0; day 5")
	wantReasons(t, sooner, map[string]uint8{"back 0 a": 0, "back 1 g": 3})
}

// P12.3 and P12.9: a part is taken in if it is back by then, and is not yet taken in.
func TestTakenIn(t *testing.T) {
	o := full()
	wantReasons(t, o, map[string]uint8{"back 0": 5, "back 0 the sea is old / old the sea": 5, "back 1": 3, "back 1 sea and sea": 3, "back 2": 2, "back 9999 sea": 2})
	wantReasons(t, played(o, "day 10"), map[string]uint8{"back 1": 3})
	wantReasons(t, played(o, "day 11"), map[string]uint8{"back 1": 0, "back 2": 2, "back 1 sea and sea": 0, "back 0": 5})
	wantReasons(t, example(), map[string]uint8{"back 0": 2})
	after, answer, e := editor.Do(played(o, "day 11"), backOrder(1, "sea or sea/sea"))
	wantOne(t, "back", answer, e, "faults unknown")
	if want := (api.Sheet{Back: true, Lines: linesOf("sea or sea/sea")}); !same(reflectOf(after.Round.Sheets[1]), reflectOf(want)) {
		t.Errorf("%+v, not %+v", after.Round.Sheets[1], want)
	}
}

// P12.3: what the faults cost that explain a sheet, or that none do.
func TestFaults(t *testing.T) {
	o := played(example(), "send 0 1 0; day 9")
	wantAnswers(t, o, map[string]string{
		"back 0 the sea is old / old the sea":                                "faults 0",
		"back 0 the sea is old / old a sea":                                  "faults 1",
		"back 0 a sea was cold / old the sea":                                "faults 3",
		"back 0 a sea was cold / old a see":                                  "faults 5",
		"back 0 the sea is old":                                              "faults 1",
		"back 0 old the sea":                                                 "faults 1",
		"back 0":                                                             "faults 2",
		"back 0 the sea is old / the sea is old / old the sea":               "faults 1",
		"back 0 the sea is old / the sea is old / old the sea / old the sea": "faults 2",
		"back 0 the sea is old / the sea is old / old a sea":                 "faults 2",
		"back 0 the sea is old / the sea is old / the sea is old":            "faults 3",
		"back 0 a / b / c":                                                   "faults unknown",
		"back 0 the sea is old / old the sea / sea and sea":                  "faults unknown",
		"back 0 the sea / the sea / old the sea":                             "faults 4",
		"back 0 old the sea / old the sea / old the sea / old the sea / old": "faults unknown",
	})
}

// reader is an office with three parts, each of which shares a line with the next one: the first one is torn, and the others differ.
func reader() api.Office {
	o := begun(book("a b/c d/e f", "g h/i j"), api.Lexicon{}, api.Edition{}, even, quick())
	return played(o, "send 0 1 0; send 1 2 0; send 2 3 0; day 9; back 0 a b; back 1 c d / e x; back 2 e f / g h")
}

// P12.3 and P12.10: a slip is written of each place that is not in doubt, and has none.
func TestSlips(t *testing.T) {
	wantReasons(t, full(), map[string]uint8{
		"slip 0 0 0": 0, "slip 0 0 2": 0, "slip 0 1 1": 0, "slip 0 1 2": 0,
		"slip 0 0 1": 5, "slip 0 0 3": 5, "slip 0 1 0": 5,
		"slip 1 0 0": 6, "slip 1 0 1": 6, "slip 1 0 2": 6,
		"slip 0 0 4": 4, "slip 0 2 0": 4, "slip 2 0 0": 4, "slip 1 0 3": 4, "slip 9999 9999 9999": 4,
	})
	wantAnswers(t, full(), map[string]string{"slip 0 0 0": "slip 4"})
	// Of two parts that differ the first one is to be written again, and one that is torn is.
	wantReasons(t, reader(), map[string]uint8{"slip 0 0 0": 6, "slip 0 1 0": 6, "slip 0 2 0": 0, "slip 1 0 1": 0, "slip 1 1 0": 6})
	differ := with(reader(), func(o *api.Office) {
		o.Round.Sheets[0].Lines = linesOf("a b/c d")
		o.Round.Sheets[1].Lines = linesOf("e")
	})
	wantReasons(t, differ, map[string]uint8{"slip 0 0 0": 0, "slip 0 1 0": 0, "slip 0 2 0": 0, "slip 1 0 0": 0, "slip 1 1 1": 6})
	differ = with(differ, func(o *api.Office) { o.Round.Sheets[2].Lines = linesOf("e") })
	wantReasons(t, differ, map[string]uint8{"slip 0 0 0": 0, "slip 0 1 1": 0, "slip 0 2 1": 6, "slip 1 0 0": 6})
}

// P12.3: a slip that is written stays, if its line comes in doubt: it is there twice first.
func TestSlipsInDoubt(t *testing.T) {
	o := with(full(), func(o *api.Office) { o.Round.Sheets[0] = api.Sheet{} })
	wantReasons(t, o, map[string]uint8{"slip 0 0 1": 5, "slip 0 0 2": 6})
}

// P12.3 and P12.10: what a slip is by the cut, and where it is put.
func TestSlipIsPutBehind(t *testing.T) {
	o := full()
	after, answer, e := editor.Do(o, slipOrder(place(0, 0, 0)))
	wantOne(t, "slip", answer, e, "slip 4")
	s, _ := slip.Make(o.Round.Text, o.Cut, place(0, 0, 0))
	want := with(o, func(o *api.Office) { o.Slips = append(o.Slips, s) })
	if !alike(after, want) {
		t.Errorf("%+v, not %+v", after, want)
	}
}

// P12.3: there are as many slips as a deck has; what is said before it goes ahead.
func TestTooManySlips(t *testing.T) {
	o := wide()
	wantReasons(t, o, map[string]uint8{"slip 0 6 0": 8, "slip 0 6 9": 8, "slip 0 5 9": 5, "slip 0 0 0": 5, "slip 0 7 0": 4})
	wantReasons(t, with(o, func(o *api.Office) { o.Round.Sheets[0] = api.Sheet{} }), map[string]uint8{"slip 0 6 0": 6})
	o = with(o, func(o *api.Office) { o.Slips = o.Slips[1:] })
	wantReasons(t, o, map[string]uint8{"slip 0 6 0": 0, "slip 0 0 0": 0})
	wantAnswers(t, o, map[string]string{"slip 0 6 0": "slip 60"})
}

// P12.3 and P12.11: a decision has the next Number, and changes something, but no entry that is printed.
func TestDecisions(t *testing.T) {
	// Of the full office "old" is printed under age; "is" is under be, and the last "sea" under see.
	wantReasons(t, full(), map[string]uint8{
		"form old age 3": 9, "form old sea 1": 11, "form sea age 3": 11, "form sea sea 0": 9, "form sea sea 1": 0, "form is be 2": 9, "form is is 0": 0, "form salt age 3": 9, "form salt salt 0": 9,
		"place 0 0 3 age 3": 9, "place 0 0 3 old 0": 11, "place 0 0 1 age 3": 11, "place 0 0 1 sea 0": 9, "place 0 0 1 see 2": 0, "place 1 0 2 see 2": 9, "place 1 0 2 sea 0": 0,
		"place 1 0 3 see 2": 4, "place 2 0 0 age 3": 4, "place 0 0 4 old 0": 4, "place 9999 0 0 sea 1": 4,
		"void 0": 7, "void 1": 11, "void 2": 0, "void 3": 0, "void 4": 7, "void 9999": 7,
	})
	wantAnswers(t, full(), map[string]string{
		"form sea sea 1": "decision 4 changes 3", "form sea see 2": "decision 4 changes 3", "form the the 3": "decision 4 changes 2", "place 0 0 1 see 2": "decision 4 changes 1", "void 2": "decision 4 changes 1",
	})
	wantAnswers(t, example(), map[string]string{"form sea sea 1": "decision 1 changes 4", "place 1 0 1 or 0": "decision 1 changes 1", "void 1": "denied: none"})
}

// P12.3: what an order of each kind adds to the lexicon, behind all other decisions.
func TestDecisionsAreAdded(t *testing.T) {
	for line, d := range map[string]api.Decision{
		"form sea sea 1":    form(4, "sea", head("sea", 1)),
		"place 0 0 1 see 2": {Number: 4, Kind: api.DecidePlace, At: place(0, 0, 1), To: head("see", 2)},
		"void 3":            {Number: 4, Kind: api.DecideVoid, Of: 3},
	} {
		x, _ := editor.Parse(line)
		after, _, e := editor.Do(full(), x)
		wantList(t, line, after.Lexicon.Decisions, e, append(full().Lexicon.Decisions, d)...)
		wantList(t, line, after.Lexicon.Rules, e, full().Lexicon.Rules...)
	}
	// The Number is 1 more than the greatest one, wherever that is.
	o := with(example(), func(o *api.Office) {
		o.Lexicon = decided(form(2, "sea", head("sea", 1)), form(9, "old", head("age", 3)), form(5, "is", head("be", 2)))
	})
	wantAnswers(t, o, map[string]string{"form the the 1": "decision 10 changes 2", "void 9": "decision 10 changes 2", "void 5": "decision 10 changes 1"})
	after, _, e := editor.Do(o, voidOrder(2))
	wantList(t, "void", after.Lexicon.Decisions, e, form(2, "sea", head("sea", 1)), form(5, "is", head("be", 2)), form(9, "old", head("age", 3)), api.Decision{Number: 10, Kind: api.DecideVoid, Of: 2})
}

// P12.3: only a decision that stands can be void; one that makes it void can be, so that it stands again.
func TestVoidDecisions(t *testing.T) {
	o := played(example(), "form old age 3; void 1")
	wantReasons(t, o, map[string]uint8{"void 1": 7, "void 2": 0, "void 3": 7})
	o = played(o, "void 2")
	wantReasons(t, o, map[string]uint8{"void 1": 0, "void 2": 7, "void 3": 0})
	// What makes no difference is void for no reason.
	o = played(example(), "form old age 3; form old old 3")
	wantReasons(t, o, map[string]uint8{"void 1": 9, "void 2": 0})
}

// P12.3: there are as many decisions as a lexicon has, and as great Numbers; what is said before it goes ahead, what is said behind it does not.
func TestTooManyDecisions(t *testing.T) {
	for _, o := range []api.Office{decider(20, 500), decider(20, 999), decider(1, 999), decider(2, 999)} {
		wantReasons(t, o, map[string]uint8{"form sea sea 1": 8, "form old age 3": 8, "place 0 0 1 sea 1": 8, "place 9 0 1 sea 1": 4, "void 1000": 7})
		o.Printed = []api.Head{head("age", 3)}
		wantReasons(t, o, map[string]uint8{"form sea age 3": 8, "form old old 0": 8})
	}
	wantReasons(t, decider(20, 500), map[string]uint8{"void 500": 8, "void 481": 8, "void 480": 7})
	for _, o := range []api.Office{decider(19, 500), decider(19, 998), decider(1, 998)} {
		wantReasons(t, o, map[string]uint8{"form sea sea 1": 0, "form old age 3": 9, "place 0 0 1 sea 1": 0, "place 9 0 1 sea 1": 4})
	}
	wantAnswers(t, decider(1, 998), map[string]string{"form sea sea 1": "decision 999 changes 4", "void 998": "decision 999 changes 2"})
}

// P12.3: rows are saved that the last generation has not.
func TestSaves(t *testing.T) {
	wantReasons(t, example(), map[string]uint8{"save": 9})
	wantReasons(t, full(), map[string]uint8{"save": 0})
	wantAnswers(t, full(), map[string]string{"save": "generation 3"})
	wantReasons(t, played(full(), "save"), map[string]uint8{"save": 9})
	// It does not matter what generations before the last one have, and it does in which order decisions are.
	wantReasons(t, played(full(), "save; undo 1"), map[string]uint8{"save": 0})
	swapped := with(played(full(), "save"), func(o *api.Office) { slices.Reverse(o.Lexicon.Decisions) })
	wantReasons(t, swapped, map[string]uint8{"save": 0})
	after, _, e := editor.Do(full(), saveOrder())
	want := with(full(), func(o *api.Office) {
		o.Shelf.Changes = append(o.Shelf.Changes, api.Hunk{At: 4, Put: []string{"form 3 is be 2"}})
	})
	if e != api.OK || !alike(after, want) {
		t.Errorf("%+v, %v, not %+v", after, e, want)
	}
}

// P12.3: there are as many generations as a shelf has; what the last one has is said before it.
func TestTooManyGenerations(t *testing.T) {
	wantReasons(t, aged(), map[string]uint8{"save": 9})
	wantReasons(t, played(aged(), "form is is 3"), map[string]uint8{"save": 8, "undo 11": 0, "undo 12": 7})
	o := with(aged(), func(o *api.Office) { o.Shelf.Changes = o.Shelf.Changes[:10] })
	wantAnswers(t, o, map[string]string{"save": "generation 11"})
}

// P12.3 and P12.12: the lexicon comes back as a generation has it, unless it is that, or something is printed by it.
func TestUndone(t *testing.T) {
	// Of the full office the generation 1 has the decision 1, the generation 2 the decisions 1 and 2.
	wantReasons(t, full(), map[string]uint8{"undo 0": 11, "undo 1": 0, "undo 2": 0, "undo 3": 7, "undo 9999": 7})
	wantAnswers(t, full(), map[string]string{"undo 1": "generation 1", "undo 2": "generation 2"})
	wantReasons(t, played(full(), "save"), map[string]uint8{"undo 1": 0, "undo 2": 0, "undo 3": 9, "undo 4": 7})
	wantReasons(t, example(), map[string]uint8{"undo 0": 9, "undo 1": 7})
	o, _, e := editor.Do(full(), undoOrder(1))
	want := with(full(), func(o *api.Office) { o.Lexicon.Decisions = o.Lexicon.Decisions[:1] })
	if e != api.OK || !alike(o, want) {
		t.Errorf("%+v, %v, not %+v", o, e, want)
	}
	wantReasons(t, o, map[string]uint8{"undo 1": 9, "undo 2": 0})
}

// P12.3: no generation comes by which a place would go from a head that is printed, or one would come to it.
func TestUndoneUnderPrintedHeads(t *testing.T) {
	goes := with(example(), func(o *api.Office) {
		o.Lexicon = decided(form(1, "old", head("age", 3)), form(2, "is", head("age", 3)))
		o.Shelf = api.Shelf{First: []string{"form 1 old age 3"}}
		o.Printed = []api.Head{head("age", 3)}
	})
	wantReasons(t, goes, map[string]uint8{"undo 0": 11})
	comes := with(goes, func(o *api.Office) {
		o.Lexicon = decided(form(1, "old", head("age", 3)))
		o.Shelf.First = append(o.Shelf.First, "form 2 is age 3")
	})
	wantReasons(t, comes, map[string]uint8{"undo 0": 11})
	for _, o := range []api.Office{goes, comes} {
		wantReasons(t, with(o, func(o *api.Office) { o.Printed = []api.Head{head("sea", 0)} }), map[string]uint8{"undo 0": 0})
		wantReasons(t, with(o, func(o *api.Office) { o.Printed = append(o.Printed, head("sea", 0)) }), map[string]uint8{"undo 0": 11})
	}
	// As many places under it, but others.
	other := with(goes, func(o *api.Office) {
		o.Lexicon = decided(form(1, "is", head("age", 3)))
		o.Shelf.First = []string{"form 1 and age 3"}
	})
	wantReasons(t, other, map[string]uint8{"undo 0": 11})
	// The same heads by other decisions.
	same := with(goes, func(o *api.Office) { o.Shelf.First = []string{"form 7 is age 3", "form 3 old age 3"} })
	wantReasons(t, same, map[string]uint8{"undo 0": 0})
}

// P12.3: a head is printed once, if it has places, and all of them have slips.
func TestPrints(t *testing.T) {
	o := played(full(), "slip 0 0 2")
	wantReasons(t, o, map[string]uint8{"print age 3": 5, "print be 2": 0, "print be 0": 7, "print is 0": 7, "print the 0": 10, "print sea 0": 10, "print see 2": 10, "print and 0": 10, "print or 0": 7, "print the 1": 7})
	wantAnswers(t, o, map[string]string{"print be 2": "lines 3"})
	wantReasons(t, played(o, "slip 0 0 0"), map[string]uint8{"print the 0": 10})
	wantReasons(t, played(o, "slip 0 1 1"), map[string]uint8{"print the 0": 10})
	wantAnswers(t, played(o, "slip 0 0 0; slip 0 1 1"), map[string]string{"print the 0": "lines 4"})
	// One that is printed is there twice, also if it has no slips.
	wantReasons(t, with(o, func(o *api.Office) { o.Slips = nil }), map[string]uint8{"print age 3": 5, "print be 2": 10})
}

// P12.3: heads that are printed are in their order, by stems, then by marks.
func TestPrintedInOrder(t *testing.T) {
	x := decided(form(1, "a", head("sea", 2)), form(2, "b", head("sea", 1)), form(3, "c", head("seal", 0)), form(4, "d", head("se", 3)), form(5, "e", head("sea", 0)))
	o := played(begun(book("a b c d e"), x, api.Edition{}, even, quick()), "send 0 0 0; day 1; back 0 a b c d e; slip 0 0 0; slip 0 0 1; slip 0 0 2; slip 0 0 3; slip 0 0 4")
	want := []api.Head{head("se", 3), head("sea", 0), head("sea", 1), head("sea", 2), head("seal", 0)}
	d := dice(3)
	for range 30 {
		l := slices.Clone(want)
		for i := range l {
			j := d.roll(i + 1)
			l[i], l[j] = l[j], l[i]
		}
		after := o
		for _, h := range l {
			wantReason(t, after, printOrder(h), 0)
			after, _, _ = editor.Do(after, printOrder(h))
		}
		wantList(t, l, after.Printed, editor.Check(after), want...)
	}
}

// P12.3: there are as many printed heads as an office has; what is said before it goes ahead.
func TestTooManyPrinted(t *testing.T) {
	o := with(wide(), func(o *api.Office) {
		// The slips of the last ten places are written, but for one.
		all, _ := slip.All(o.Round.Text, o.Cut)
		o.Slips = all[60:69]
	})
	wantReasons(t, o, map[string]uint8{"print ga 0": 8, "print gi 0": 8, "print gj 0": 10, "print aa 0": 5, "print fj 0": 5, "print ga 1": 7})
	o = with(o, func(o *api.Office) { o.Printed = o.Printed[1:] })
	wantReasons(t, o, map[string]uint8{"print ga 0": 0, "print aa 0": 10})
}

// P12.3: of any office, and any order, the reason is the first one that holds, and what is done, and answered, is what the document says.
func TestAnyOrderOfAnyOffice(t *testing.T) {
	d := dice(4)
	seen := map[[2]uint8]int{}
	for range 220 {
		o := d.office()
		for range 60 {
			x := d.order(o)
			v := wantDone(t, o, x)
			seen[[2]uint8{x.Kind, v.reason}]++
			o = v.after
		}
	}
	for kind, reasons := range map[uint8][]uint8{1: {0, 1}, 2: {0, 2}, 3: {0, 2, 3, 5}, 4: {0, 4, 5, 6}, 5: {0, 9, 11}, 6: {0, 4, 9, 11}, 7: {0, 7, 9, 11}, 8: {0, 9}, 9: {0, 7, 9, 11}, 10: {0, 5, 7, 10}} {
		for _, reason := range reasons {
			if n := seen[[2]uint8{kind, reason}]; n < 5 {
				t.Errorf("kind %d, reason %d: %d", kind, reason, n)
			}
		}
	}
}

// P12.9 to P12.11: what comes of orders, by the words of the promises.
func TestWhatComesOfOrders(t *testing.T) {
	d := dice(5)
	seen := map[uint8]int{}
	for range 200 {
		o := d.office()
		for range 50 {
			x := d.order(o)
			after, _, e := editor.Do(o, x)
			if e != api.OK {
				if !alike(after, o) {
					t.Errorf("%s: %+v, not %+v", lineOf(x), after, o)
				}
				continue
			}
			seen[x.Kind]++
			switch x.Kind {
			case api.OrderBack:
				part := x.N[0]
				if back, _ := hand.Back(o.Round, part); back > o.Day || o.Round.Sheets[part].Back || !same(reflectOf(after.Round.Sheets[part].Lines), reflectOf(x.Lines)) {
					t.Errorf("%s: %+v", lineOf(x), after.Round)
				}
			case api.OrderSlip:
				s, p := after.Slips[len(after.Slips)-1], place(x.N[0], x.N[1], x.N[2])
				right, _ := slip.Make(o.Round.Text, o.Cut, p)
				if doubt, _ := hand.Doubt(o.Round, o.Cut); s != right || !isOpen(o, p) || slices.Contains(doubt, s) {
					t.Errorf("%s: %+v", lineOf(x), s)
				}
			case api.OrderForm, api.OrderPlace, api.OrderVoid:
				number := after.Lexicon.Decisions[len(after.Lexicon.Decisions)-1]
				changes, _ := stem.Changes(o.Round.Text, o.Lexicon, number)
				for _, p := range places(o.Round.Text) {
					a, b := headAt(o, o.Lexicon, p), headAt(after, after.Lexicon, p)
					if (a != b) != slices.Contains(changes, p) || a != b && (slices.Contains(o.Printed, a) || slices.Contains(o.Printed, b)) {
						t.Errorf("%s: %v, %v, %v", lineOf(x), p, a, b)
					}
				}
			}
			o = after
		}
	}
	for _, kind := range []uint8{3, 4, 5, 6, 7} {
		if seen[kind] < 50 {
			t.Error(kind, seen[kind])
		}
	}
}
