package editor_test

import (
	"fmt"
	"reflect"
	"slices"
	"strings"
	"testing"

	"postil/api"
	"postil/editor"
	"postil/sheaf"
	"postil/slip"
	"postil/stem"
)

// input is arguments for all calls.
type input struct {
	o       api.Office
	x       api.Order
	line    string
	lines   []string
	text    api.Text
	lexicon api.Lexicon
	edition api.Edition
	cut     api.Cut
	helpers []api.Helper
	files   []string
}

// outcome is what a call returned: its results, and its error.
type outcome struct {
	call    string
	results []any
	e       api.Errno
}

// all is what all calls return.
func (x input) all() []outcome {
	var l []outcome
	add := func(call string, e api.Errno, results ...any) { l = append(l, outcome{call, results, e}) }
	o, e := editor.New(x.text, x.lexicon, x.edition, x.cut, x.helpers)
	add("New", e, o)
	add("Check", editor.Check(x.o))
	line, e := editor.Line(x.x)
	add("Line", e, line)
	order, e := editor.Parse(x.line)
	add("Parse", e, order)
	reason, e := editor.Reason(x.o, x.x)
	add("Reason", e, reason)
	after, answer, e := editor.Do(x.o, x.x)
	add("Do", e, after, answer)
	after, answers, at, e := editor.Play(x.o, x.lines)
	add("Play", e, after, answers, at)
	written, of, printed, heads, e := editor.Progress(x.o)
	add("Progress", e, written, of, printed, heads)
	waiting, e := editor.Waiting(x.o)
	add("Waiting", e, waiting)
	volume, e := editor.Volume(x.o)
	add("Volume", e, volume)
	files, e := editor.Pack(x.o, x.lines)
	add("Pack", e, files)
	o, volume, at, e = editor.Unpack(x.files, x.edition, x.cut, x.helpers)
	add("Unpack", e, o, volume, at)
	return l
}

// isZero tells whether a result is zero; an empty list is as nil.
func isZero(x any) bool { return same(reflect.ValueOf(x), reflect.Zero(reflect.TypeOf(x))) }

// wantErrors checks that some calls have one of some errors, and that no call has results with any error, but those that the document names.
func wantErrors(t *testing.T, x input, calls []string, errors ...api.Errno) {
	t.Helper()
	wantOutcomes(t, x, x.all(), calls, errors...)
}

// wantOutcomes checks what the calls of an input returned, as wantErrors does.
func wantOutcomes(t *testing.T, x input, all []outcome, calls []string, errors ...api.Errno) {
	t.Helper()
	for _, o := range all {
		if slices.Contains(calls, o.call) && !slices.Contains(errors, o.e) {
			t.Errorf("%s of %.2000v: %v, not one of %v", o.call, x, o.e, errors)
		}
		if o.e == api.OK {
			continue
		}
		for n, result := range o.results {
			isNamed := o.call == "Do" && o.e == api.ErrDenied || o.call == "Play" && o.e == api.ErrOrder && n != 1 || o.call == "Unpack" && (o.e == api.ErrFiles || o.e == api.ErrOrder) && n == 2
			if !isNamed && !isZero(result) {
				t.Errorf("%s of %.2000v: %v, with the results %v", o.call, x, o.e, o.results)
			}
		}
	}
}

// spared is a value whose lists have more memory behind their ends, in which marks stand.
func spared(v reflect.Value) reflect.Value {
	other := reflect.New(v.Type()).Elem()
	switch v.Kind() {
	case reflect.Slice:
		l := reflect.MakeSlice(v.Type(), v.Len()+2, v.Len()+2)
		for i := range v.Len() {
			l.Index(i).Set(spared(v.Index(i)))
		}
		if v.Type().Elem().Kind() == reflect.String {
			l.Index(v.Len()).SetString("mark")
		}
		other.Set(l.Slice(0, v.Len()))
	case reflect.Struct:
		for i := range v.NumField() {
			other.Field(i).Set(spared(v.Field(i)))
		}
	default:
		other.Set(v)
	}
	return other
}

// memory is a copy of all that the lists of a value have, up to what is behind their ends.
func memory(v reflect.Value) []any {
	var all []any
	switch v.Kind() {
	case reflect.Slice:
		for i := range v.Cap() {
			all = append(all, memory(v.Slice(0, v.Cap()).Index(i))...)
		}
	case reflect.Array:
		for i := range v.Len() {
			all = append(all, memory(v.Index(i))...)
		}
	case reflect.Struct:
		for i := range v.NumField() {
			all = append(all, memory(v.Field(i))...)
		}
	default:
		all = append(all, fmt.Sprint(v))
	}
	return all
}

// kept is a copy of all that an input has, up to what is behind the ends of its lists.
func (x input) kept() []any {
	return memory(reflectOf([]any{x.o, x.x, x.lines, x.text, x.lexicon, x.edition, x.helpers, x.files}))
}

// spoil writes to all memory of the lists of a result, up to what is behind their ends.
func spoil(v reflect.Value) {
	switch v.Kind() {
	case reflect.Slice:
		v = v.Slice(0, v.Cap())
		for i := range v.Len() {
			spoil(v.Index(i))
			v.Index(i).SetZero()
			if v.Index(i).Kind() == reflect.String {
				v.Index(i).SetString("spoiled")
			}
		}
	case reflect.Struct:
		for i := range v.NumField() {
			spoil(v.Field(i))
		}
	}
}

// sparedInputs is inputs with orders of all kinds that are done, or denied, whose lists have more memory behind their ends.
func sparedInputs() []input {
	late := played(full(), "day 11; slip 0 0 2")
	var l []input
	for _, y := range []struct {
		o    api.Office
		line string
	}{
		{late, "day 12"}, {seven(), "send 0 3 1"}, {played(full(), "day 11"), "back 1 sea and sea / sea"}, {late, "slip 0 0 0"}, {late, "form sea see 2"}, {late, "place 1 0 0 see 2"}, {late, "void 3"}, {late, "save"}, {late, "undo 1"}, {late, "print be 2"}, {late, "print age 3"}, {late, "void 1"}, {example(), "save"},
	} {
		order, e := editor.Parse(y.line)
		if e != api.OK {
			panic(e)
		}
		x := input{o: y.o, x: order, line: "back 0 the sea / is old", lines: []string{y.line, "save", "back 1 sea / sea"}, text: sample(), lexicon: full().Lexicon, edition: five(), cut: even, helpers: two()}
		lines, _ := linesTold()
		x.files = filesOf(example(), lines)
		x.o = spared(reflectOf(x.o)).Interface().(api.Office)
		x.x = spared(reflectOf(x.x)).Interface().(api.Order)
		x.lines = spared(reflectOf(x.lines)).Interface().([]string)
		x.text = spared(reflectOf(x.text)).Interface().(api.Text)
		x.lexicon = spared(reflectOf(x.lexicon)).Interface().(api.Lexicon)
		x.edition = spared(reflectOf(x.edition)).Interface().(api.Edition)
		x.helpers = spared(reflectOf(x.helpers)).Interface().([]api.Helper)
		x.files = spared(reflectOf(x.files)).Interface().([]string)
		l = append(l, x)
	}
	return l
}

// R3: no argument is written to, nor the memory behind the end of one; and the same arguments have the same results.
func TestArgumentsAreNotWrittenTo(t *testing.T) {
	for _, x := range sparedInputs() {
		before, first := x.kept(), x.all()
		if !reflect.DeepEqual(before, x.kept()) {
			t.Errorf("arguments are %v, not %v any more", x.kept(), before)
		}
		for i, o := range x.all() {
			if o.e != api.OK && (o.call != "Do" || o.e != api.ErrDenied) || !reflect.DeepEqual(o, first[i]) {
				t.Errorf("%s: %v, then %v", o.call, first[i], o)
			}
		}
	}
}

// R3: what is written to a result is seen in no argument, and in no other result.
func TestResultsShareNoMemory(t *testing.T) {
	for _, x := range sparedInputs() {
		// Play has an office also if a line is none of an order.
		for _, lines := range [][]string{x.lines, {"none"}} {
			x.lines = lines
			before, first := x.kept(), x.all()
			for _, o := range x.all() {
				for _, result := range o.results {
					spoil(reflectOf(result))
				}
			}
			if !reflect.DeepEqual(before, x.kept()) {
				t.Errorf("arguments are %v, not %v any more", x.kept(), before)
			}
			if again := x.all(); !reflect.DeepEqual(first, again) {
				t.Errorf("results are %v, not %v any more", again, first)
			}
		}
	}
}

// R3: no two lists of one result share memory: all of them together have as much memory as each one by itself.
func TestListsOfAResultShareNoMemory(t *testing.T) {
	d := dice(15)
	check := func(what any, o api.Office) {
		seen := map[uintptr]bool{}
		if overlap(reflectOf(o), seen) {
			t.Errorf("%v: lists of %+v share memory", what, o)
		}
	}
	for range 200 {
		o := d.office()
		check("New", o)
		l := d.year(o, 40)
		after, _, _, _ := editor.Play(o, l)
		check(l, after)
		files := filesOf(o, l)
		after, _, _, _ = editor.Unpack(files, o.Edition, o.Cut, o.Round.Helpers)
		check("Unpack", after)
		x := d.order(after)
		after, _, _ = editor.Do(after, x)
		check(lineOf(x), after)
	}
	order, _ := editor.Parse("back 0 the sea / is old / the sea")
	if overlap(reflectOf(order), map[uintptr]bool{}) {
		t.Errorf("lists of %+v share memory", order)
	}
}

// overlap tells whether some element of a list, also behind its end, lies where another one does.
func overlap(v reflect.Value, seen map[uintptr]bool) bool {
	switch v.Kind() {
	case reflect.Slice:
		v = v.Slice(0, v.Cap())
		for i := range v.Len() {
			at := v.Index(i).Addr().Pointer()
			if seen[at] || overlap(v.Index(i), seen) {
				return true
			}
			seen[at] = true
		}
	case reflect.Struct:
		for i := range v.NumField() {
			// The first field of an element lies where the element does; only lists are looked for.
			if overlap(v.Field(i), seen) {
				return true
			}
		}
	}
	return false
}

// R3: nothing is remembered of other arguments.
func TestNothingIsRemembered(t *testing.T) {
	var first [][]outcome
	l := sparedInputs()
	for _, x := range l {
		first = append(first, x.all())
	}
	for n, x := range slices.Backward(l) {
		if again := x.all(); !reflect.DeepEqual(again, first[n]) {
			t.Errorf("%v, not %v any more", again, first[n])
		}
	}
}

// emptied is a value in which lists that are nil are empty.
func emptied(v reflect.Value) reflect.Value {
	other := reflect.New(v.Type()).Elem()
	switch v.Kind() {
	case reflect.Slice:
		other.Set(reflect.MakeSlice(v.Type(), v.Len(), v.Len()))
		for i := range v.Len() {
			other.Index(i).Set(emptied(v.Index(i)))
		}
	case reflect.Struct:
		for i := range v.NumField() {
			other.Field(i).Set(emptied(v.Field(i)))
		}
	default:
		other.Set(v)
	}
	return other
}

// R4: nil lists and empty ones are the same.
func TestNilAndEmpty(t *testing.T) {
	bare := begun(sample(), api.Lexicon{}, api.Edition{}, even, two())
	sent := with(bare, func(o *api.Office) {
		o.Day = 9
		o.Round.Shares, o.Round.Sheets = []api.Share{share(0, 1, 0, 0), share(2, 2, 0, 9)}, []api.Sheet{{Back: true}, {}}
		o.Shelf.Changes = []api.Hunk{{}, {}}
	})
	for _, o := range []api.Office{bare, sent} {
		for _, line := range []string{"day 10", "send 2 2 1", "back 0", "save", "undo 0", "slip 0 0 0", "form is be 2"} {
			order, _ := editor.Parse(line)
			x := input{o: o, x: order, text: sample(), cut: even, helpers: two(), files: filesOf(bare, nil)}
			y := x
			y.o, y.x = emptied(reflectOf(o)).Interface().(api.Office), emptied(reflectOf(order)).Interface().(api.Order)
			y.lines, y.lexicon, y.edition.Stretches = []string{}, emptied(reflectOf(x.lexicon)).Interface().(api.Lexicon), []api.Stretch{}
			first, second := x.all(), y.all()
			for i, a := range first {
				b := second[i]
				if a.e != b.e || a.call != "Parse" && a.e != api.OK && a.e != api.ErrDenied {
					t.Errorf("%s: %v, %v", a.call, a, b)
				}
				for n, result := range a.results {
					if !same(reflectOf(result), reflectOf(b.results[n])) {
						t.Errorf("%s: %v, %v", a.call, a, b)
					}
				}
			}
		}
	}
	for _, text := range []api.Text{{}, {Chapters: []api.Chapter{}}, {Chapters: []api.Chapter{{Lines: [][]string{}}}}, {Chapters: []api.Chapter{{Lines: [][]string{{}}}}}} {
		wantErrors(t, input{text: text}, []string{"New"}, api.ErrText)
		wantErrors(t, input{o: api.Office{Round: api.Round{Text: text}}}, withOffice, api.ErrOffice)
	}
	for _, files := range [][]string{nil, {}, {""}, {"", ""}} {
		wantErrors(t, input{files: files}, []string{"Unpack"}, api.ErrFiles)
	}
}

// R2, R5 and R7: no call panics, whatever the numbers and words are, and with an error there is no result.
func TestAnyValues(t *testing.T) {
	numbers := append([]int{-2, 0, 1, 2, 3, 11, 12, 60, 61, 80, 81, 255, 256, 400, 401, 999, 1000, 9999}, far...)
	d := dice(16)
	number := func() int { return one(&d, append(numbers, d.roll(4), d.roll(4))...) }
	text := func() string { return one(&d, append(noWords, d.word(), d.word(), "the sea")...) }
	place := func() api.Place { return place(number(), number(), number()) }
	head := func() api.Head { return head(text(), uint8(number())) }
	right := map[string]int{}
	for range 2000 {
		o := d.walked(d.roll(12))
		l := d.year(o, 5)
		x := input{o: with(o, func(*api.Office) {}), x: d.order(o), line: lineOf(d.order(o)), lines: l, text: o.Round.Text, lexicon: o.Lexicon, edition: o.Edition, cut: o.Cut, helpers: o.Round.Helpers, files: filesOf(o, l)}
		switch d.roll(22) {
		case 0:
			x.o.Day = number()
		case 1:
			x.o.Round.Shares = append(x.o.Round.Shares, share(number(), number(), number(), number()))
			x.o.Round.Sheets = append(x.o.Round.Sheets, api.Sheet{Back: d.roll(2) > 0, Lines: [][]string{{text()}}})
		case 2:
			x.o.Round.Helpers = append(x.o.Round.Helpers, api.Helper{Id: number(), Post: number(), Rate: number()})
		case 3:
			x.o.Round.Text.Chapters[0].Lines[0][0] = text()
		case 4:
			x.o.Lexicon.Decisions = append(x.o.Lexicon.Decisions, api.Decision{Number: number(), Kind: uint8(number()), Form: text(), At: place(), To: head(), Of: number()})
		case 5:
			x.o.Lexicon.Rules = append(x.o.Lexicon.Rules, api.Rule{Cut: text(), Put: text(), Least: number()})
		case 6:
			x.o.Edition.Stretches = append(x.o.Edition.Stretches, stretch(number(), number(), number(), number(), number()))
		case 7:
			x.o.Cut = api.Cut{Width: number(), Side: uint8(number())}
		case 8:
			x.o.Slips = append(x.o.Slips, api.Slip{At: place(), Word: text(), Before: text(), After: text()})
		case 9:
			x.o.Shelf.Changes = append(x.o.Shelf.Changes, api.Hunk{At: number(), Drop: number(), Put: []string{text()}})
		case 10:
			x.o.Printed = append(x.o.Printed, head())
		case 11, 12, 13:
			x.x.N[d.roll(3)] = number()
		case 14:
			x.x.Kind = uint8(number())
		case 15:
			x.x.Word, x.x.Stem, x.x.Mark = text(), text(), uint8(number())
		case 16:
			x.x.Lines = [][]string{{text()}, {text(), text()}}
		case 17:
			x.lines, x.line = append(x.lines, text()), text()
		case 18:
			x.files[d.roll(3)] += text()
		case 19:
			x.edition, x.cut.Width, x.helpers = edition(number()), number(), append(x.helpers, api.Helper{Rate: number()})
		case 20:
			x.lexicon, x.text = api.Lexicon{Rules: []api.Rule{{Cut: text(), Put: text(), Least: number()}}}, api.Text{Chapters: []api.Chapter{{Id: number(), Lines: [][]string{{text()}}}}}
		}
		if isOffice(x.o) != (editor.Check(x.o) == api.OK) {
			t.Errorf("%+v: %v", x.o, editor.Check(x.o))
		}
		all := x.all()
		wantOutcomes(t, x, all, withOffice, api.OK, api.ErrOffice, api.ErrOrder, api.ErrDenied)
		wantOutcomes(t, x, all, []string{"New", "Unpack"}, api.OK, api.ErrText, api.ErrLexicon, api.ErrOffice, api.ErrFiles)
		wantOutcomes(t, x, all, []string{"Line", "Parse"}, api.OK, api.ErrOrder)
		for _, o := range all {
			if o.e == api.OK {
				right[o.call]++
			}
		}
	}
	for _, o := range (input{}).all() {
		if right[o.call] < 150 {
			t.Error(o.call, right[o.call])
		}
	}
}

// greatest is an office with as much of everything as there may be, and the lines of a year.
func greatest() (api.Office, []string) {
	var o api.Office
	for i := range 6 {
		c := api.Chapter{Id: 9999 - i}
		for n := range 10 {
			c.Lines = append(c.Lines, slices.Repeat([]string{string([]byte{'a' + byte(i), 'a' + byte(n)})}, 10))
		}
		o.Round.Text.Chapters = append(o.Round.Text.Chapters, c)
		o.Edition.Stretches = append(o.Edition.Stretches, stretch(i, 0, 5, 999-i, 995), stretch(i, 5, 10, 1+i, 995))
	}
	o.Day, o.Cut = 400, api.Cut{Width: 80, Side: api.SideEven}
	for i := range 4 {
		o.Round.Helpers = append(o.Round.Helpers, api.Helper{Id: i, Post: 30, Rate: 20})
	}
	for i := range 8 {
		o.Round.Shares = append(o.Round.Shares, share(6*i, 6*i+11, i%4, 0))
		o.Round.Sheets = append(o.Round.Sheets, api.Sheet{Back: true, Lines: longest()})
	}
	o.Lexicon.Rules = slices.Repeat([]api.Rule{{Cut: "abcdefghijkl", Put: "lkjihgfedcba", Least: 12}}, 12)
	for n := range 19 {
		o.Lexicon.Decisions = append(o.Lexicon.Decisions, api.Decision{Number: 980 - n, Kind: api.DecideFrom, Form: "ff", At: place(5, 5, 0), To: head("lkjihgfedcba", 3)})
	}
	rows, _ := sheaf.OfLexicon(o.Round.Text, o.Lexicon)
	o.Shelf.First = rows
	for range 10 {
		o.Shelf.Changes = append(o.Shelf.Changes, api.Hunk{Drop: len(rows), Put: rows})
	}
	all, _ := slip.All(o.Round.Text, o.Cut)
	o.Slips = all[:60]
	o.Printed, _ = stem.Heads(o.Round.Text, o.Lexicon)
	var lines []string
	for n := range 30 {
		lines = append(lines, fmt.Sprintf("place 5 9 %d abcdefghijkl 3", n%10), lineOf(api.Order{Kind: 3, N: [3]int{7}, Lines: longest()[:1]}))
	}
	return o, lines
}

// R7: the greatest arguments of all calls.
func TestGreatestArguments(t *testing.T) {
	o, lines := greatest()
	x := input{o: o, x: api.Order{Kind: 3, N: [3]int{9999}, Lines: longest()}, line: lineOf(api.Order{Kind: 3, N: [3]int{9999}, Lines: longest()}), lines: lines, text: o.Round.Text, lexicon: o.Lexicon, edition: o.Edition, cut: o.Cut, helpers: o.Round.Helpers, files: filesOf(o, lines)}
	for _, y := range x.all() {
		want := api.OK
		if y.call == "Do" {
			want = api.ErrDenied
		}
		if y.e != want {
			t.Errorf("%s: %v, not %v", y.call, y.e, want)
		}
	}
	written, of, printed, heads, e := editor.Progress(o)
	wantOne(t, "progress", [4]int{written, of, printed, heads}, e, [4]int{60, 600, 60, 60})
	volume, e := editor.Volume(o)
	wantOne(t, "volume", strings.Count(volume, "\n"), e, 720)
	// An office that waits for all decisions, of which each one is about all words.
	free := with(o, func(o *api.Office) {
		o.Printed, o.Lexicon.Decisions = nil, nil
		for i, c := range o.Round.Text.Chapters {
			for _, line := range c.Lines {
				copy(line, slices.Repeat([]string{"a"}, 10))
			}
			o.Round.Text.Chapters[i].Id = i
		}
		o.Slips, o.Shelf = nil, api.Shelf{}
	})
	var years []string
	for n := range 30 {
		years = append(years, fmt.Sprintf("form a a %d", 1+n%2), "save")
	}
	_, answers, _, e := editor.Play(free, years)
	if len(answers) != 60 || answers[39] != "denied: full" || answers[20] != "decision 11 changes 600" || answers[59] != "denied: full" || e != api.OK {
		t.Errorf("%q, %v", answers, e)
	}
}
