package editor_test

import (
	"slices"
	"strings"
	"testing"

	"postil/api"
	"postil/editor"
	"postil/sheaf"
	"postil/stem"
	"postil/tome"
)

// year is so many lines of orders that an office may do, or deny.
func (d *dice) year(o api.Office, n int) []string {
	var l []string
	for range n {
		x := d.order(o)
		l = append(l, lineOf(x))
		o, _, _ = editor.Do(o, x)
	}
	return l
}

// P12.4: lines are played as their orders are done, one after the other, and those that are denied are told.
func TestPlay(t *testing.T) {
	d := dice(6)
	for range 200 {
		o := d.walked(d.roll(30))
		l := d.year(o, d.roll(61))
		want, answers := o, []string(nil)
		for _, line := range l {
			x, _ := editor.Parse(line)
			v := judge(want, x)
			want, answers = v.after, append(answers, answerOf(v))
		}
		after, got, at, e := editor.Play(o, l)
		wantList(t, l, got, e, answers...)
		wantOne(t, l, at, e, 0)
		if !alike(after, want) {
			t.Errorf("%q: %+v, not %+v", l, after, want)
		}
	}
}

// P12.4: each reason is told by its word, and play goes on.
func TestPlayGoesOn(t *testing.T) {
	l := []string{"day 0", "send 9 9 0", "send 0 0 0", "back 0", "slip 9 0 0", "slip 0 0 0", "void 1", "save", "day 5", "back 0 the sea is old", "back 0 the sea is old", "slip 0 0 0", "slip 0 0 3", "print the 0", "print old 0", "slip 0 1 0"}
	want := []string{"denied: day", "denied: part", "part 0 back 5", "denied: early", "denied: place", "denied: doubt", "denied: none", "denied: idle", "day 5", "faults 0", "denied: twice", "slip 1", "slip 2", "denied: open", "denied: open", "denied: doubt"}
	_, answers, at, e := editor.Play(example(), l)
	wantList(t, "play", answers, e, want...)
	wantOne(t, "at", at, e, 0)
	l = []string{"form the old 0", "send 0 1 0", "day 6", "back 0", "back 1", "print the 0", "print the 0"}
	want = []string{"decision 1 changes 2", "part 0 back 6", "day 6", "faults 2", "denied: part", "denied: none", "denied: none"}
	_, answers, _, e = editor.Play(example(), l)
	wantList(t, "play", answers, e, want...)
	_, answers, _, e = editor.Play(played(full(), "day 8"), []string{"form old sea 1", "day 8", "day 9", "undo 0", "undo 7"})
	wantList(t, "play", answers, e, "denied: printed", "denied: day", "day 9", "denied: printed", "denied: none")
	_, answers, _, e = editor.Play(wide(), []string{"slip 0 6 0", "print ga 0"})
	wantList(t, "play", answers, e, "denied: full", "denied: open")
}

// P12.4: there are as many lines as a year has; too many are told before one that is none of an order.
func TestTooManyLines(t *testing.T) {
	saves := slices.Repeat([]string{"save"}, 61)
	after, answers, at, e := editor.Play(example(), saves[:60])
	wantList(t, "60", answers, e, slices.Repeat([]string{"denied: idle"}, 60)...)
	if at != 0 || !alike(after, example()) {
		t.Errorf("%v, %+v", at, after)
	}
	for _, l := range [][]string{saves, slices.Concat([]string{"none"}, saves), slices.Repeat(saves, 1000)} {
		wantErrors(t, input{o: example(), lines: l}, []string{"Play", "Pack"}, api.ErrMany)
	}
}

// P12.4: the first line that is none of an order is told, and none of the lines is done.
func TestLinesOfNoOrder(t *testing.T) {
	right := []string{"day 9", "send 0 0 0", "save", "form old age 1"}
	for n := range len(right) + 1 {
		for _, none := range []string{"", "none", "day", "day 10000", "save ", "print old 4"} {
			l := slices.Concat(right[:n], []string{none}, right[n:])
			after, answers, at, e := editor.Play(full(), l)
			if e != api.ErrOrder || at != n || len(answers) != 0 || !alike(after, full()) {
				t.Errorf("%q: %+v, %v, %v, %v", l, after, answers, at, e)
			}
			l = append(l, none, "day 11")
			_, _, at, e = editor.Play(full(), l)
			if e != api.ErrOrder || at != n {
				t.Errorf("%q: %v, %v", l, at, e)
			}
			wantErrors(t, input{o: full(), lines: l}, []string{"Pack"}, api.ErrOrder)
		}
	}
	l := append(slices.Repeat([]string{"save"}, 59), "saved")
	if _, _, at, e := editor.Play(full(), l); at != 59 || e != api.ErrOrder {
		t.Error(at, e)
	}
}

// P12.13: play in two pieces is play in one; an order that is denied may be left out.
func TestPlayInTwoPieces(t *testing.T) {
	d := dice(7)
	for range 100 {
		o := d.office()
		l := d.year(o, 60)
		want, answers, _, e := editor.Play(o, l)
		n := d.roll(61)
		half, first, _, f := editor.Play(o, l[:n])
		after, second, _, g := editor.Play(half, l[n:])
		if e != api.OK || f != api.OK || g != api.OK || !alike(after, want) || !slices.Equal(slices.Concat(first, second), answers) {
			t.Errorf("%q at %d: %+v, not %+v", l, n, after, want)
		}
		var done []string
		for n, line := range l {
			if !strings.HasPrefix(answers[n], "denied: ") {
				done = append(done, line)
			}
		}
		after, second, _, e = editor.Play(o, done)
		if e != api.OK || !alike(after, want) || slices.ContainsFunc(second, func(s string) bool { return strings.HasPrefix(s, "denied") }) {
			t.Errorf("%q: %+v, not %+v", done, after, want)
		}
	}
}

// P12.5: what is written and printed, and what is waited for, of any office.
func TestProgress(t *testing.T) {
	d := dice(8)
	for range 200 {
		o := d.walked(d.roll(60))
		written, of, printed, heads, e := editor.Progress(o)
		all, _ := stem.Heads(o.Round.Text, o.Lexicon)
		wantOne(t, "progress", [4]int{written, of, printed, heads}, e, [4]int{len(o.Slips), words(o.Round.Text), len(o.Printed), len(all)})
		var want []int
		for part, s := range o.Round.Sheets {
			if !s.Back {
				want = append(want, part)
			}
		}
		l, e := editor.Waiting(o)
		wantList(t, "waiting", l, e, want...)
		volume, e := editor.Volume(o)
		wantOne(t, "volume", volume, e, volumeOf(o))
	}
	written, of, printed, heads, e := editor.Progress(full())
	wantOne(t, "progress", [4]int{written, of, printed, heads}, e, [4]int{3, 10, 1, 6})
	l, e := editor.Waiting(full())
	wantList(t, "waiting", l, e, 1)
	written, of, printed, heads, e = editor.Progress(example())
	wantOne(t, "progress", [4]int{written, of, printed, heads}, e, [4]int{0, 10, 0, 5})
	l, e = editor.Waiting(example())
	wantList(t, "waiting", l, e)
	l, e = editor.Waiting(played(seven(), "send 0 0 1; send 1 1 1; send 2 2 1; send 3 3 1; day 4; back 1; back 3"))
	wantList(t, "waiting", l, e, 0, 2)
}

// P12.5: a volume has the lines of all printed heads, in their order, each with a line feed; nothing, if there are none.
func TestVolume(t *testing.T) {
	volume, e := editor.Volume(example())
	wantOne(t, "none", volume, e, "")
	o := played(full(), "slip 0 0 2; print be 2; slip 0 0 0; slip 0 1 1; print the 0")
	volume, e = editor.Volume(o)
	wantOne(t, "three", volume, e, "age/3\nold 2\n1.1.4: is [old] old the\n2.5.1: is old [old] the\nbe/2\nis 1\n1.1.3: sea [is] old old\nthe\nthe 2\n1.1.1: [the] sea is old\n2.5.2: is old old [the]\n")
	// A line is printed without a reference if the edition has none, and without copies nothing is open.
	o = with(example(), func(o *api.Office) { o.Printed = []api.Head{head("and", 0), head("sea", 0)} })
	volume, e = editor.Volume(o)
	wantOne(t, "in a gap", volume, e, "and\nand 1\n-: sea [and] sea\nsea\nsea 4\n1.1.2: the [sea] is old\n2.5.3: old the [sea]\n-: [sea] and sea\n-: sea and [sea]\n")
}

// P12.8: whatever orders come, the lines of a head that is printed stay, and a volume only grows.
func TestWhatIsPrintedStays(t *testing.T) {
	d := dice(9)
	most := 0
	for range 80 {
		o := d.office()
		kept := map[api.Head][]string{}
		for range 100 {
			x := d.order(o)
			if d.roll(4) == 0 {
				x = printOrder(headAt(o, o.Lexicon, one(&d, places(o.Round.Text)...)))
			}
			before, _ := editor.Volume(o)
			o, _, _ = editor.Do(o, x)
			volume, e := editor.Volume(o)
			if e != api.OK || !grows(before, volume) {
				t.Errorf("%s: %q, then %q", lineOf(x), before, volume)
			}
			for _, h := range o.Printed {
				l, _ := tome.Print(records(o), h)
				if kept[h] == nil {
					kept[h] = l
				}
				wantList(t, h, l, api.OK, kept[h]...)
			}
			if len(kept) != len(o.Printed) {
				t.Errorf("%s: %v, not %v", lineOf(x), o.Printed, kept)
			}
		}
		most = max(most, len(kept))
	}
	if most < 3 {
		t.Error(most)
	}
}

// grows tells whether a volume has all lines of another one, in their order.
func grows(small, great string) bool {
	l := strings.Split(small, "\n")
	for line := range strings.SplitSeq(great, "\n") {
		if len(l) > 0 && line == l[0] {
			l = l[1:]
		}
	}
	return len(l) == 0
}

// P12.12: what was saved is the lexicon again, if it is undone to it; generations stay, whatever comes.
func TestGenerationsComeBack(t *testing.T) {
	d := dice(10)
	undone := 0
	for range 150 {
		o := d.office()
		saved := []api.Lexicon{o.Lexicon}
		for range 60 {
			x := one(&d, saveOrder(), undoOrder(d.roll(len(saved)+1)), formOrder(d.word(), d.head()), placeOrder(d.place(o), d.head()), d.order(o))
			after, answer, e := editor.Do(o, x)
			if e != api.OK {
				continue
			}
			switch x.Kind {
			case api.OrderSave:
				saved = append(saved, o.Lexicon)
			case api.OrderUndo:
				undone++
				if !same(reflectOf(after.Lexicon), reflectOf(saved[x.N[0]])) {
					t.Errorf("%s: %+v, not %+v", answer, after.Lexicon, saved[x.N[0]])
				}
			}
			o = after
		}
		for n, x := range saved {
			want, _ := sheaf.OfLexicon(o.Round.Text, x)
			rows, e := sheaf.Back(o.Shelf, n)
			wantList(t, n, rows, e, want...)
		}
		if len(o.Shelf.Changes) != len(saved)-1 {
			t.Errorf("%+v, not %d", o.Shelf, len(saved))
		}
	}
	if undone < 100 {
		t.Error(undone)
	}
}

// P12.14: if all slips are written, and all heads printed, the volume has each occurrence of each word, besides heads and forms.
func TestAllOfTheVolume(t *testing.T) {
	d := dice(11)
	for range 60 {
		o := d.office()
		for range d.roll(6) {
			o, _, _ = editor.Do(o, formOrder(d.word(), d.head()))
		}
		lines := len(linesIn(o.Round.Text))
		o, _, _ = editor.Do(o, sendOrder(0, lines-1, 0))
		o = played(o, "day 400")
		o, _, _ = editor.Do(o, backOrder(0, strings.ReplaceAll(right(o, 0), " / ", "/")))
		for _, p := range places(o.Round.Text) {
			wantReason(t, o, slipOrder(p), 0)
			o, _, _ = editor.Do(o, slipOrder(p))
		}
		heads, _ := stem.Heads(o.Round.Text, o.Lexicon)
		want := words(o.Round.Text) + len(heads)
		for _, h := range heads {
			wantReason(t, o, printOrder(h), 0)
			o, _, _ = editor.Do(o, printOrder(h))
			forms, _ := stem.Forms(o.Round.Text, o.Lexicon, h)
			want += len(forms)
		}
		volume, e := editor.Volume(o)
		wantOne(t, o.Round.Text, strings.Count(volume, "\n"), e, want)
		written, of, printed, all, e := editor.Progress(o)
		wantOne(t, o.Round.Text, [2]int{written, printed}, e, [2]int{of, all})
	}
}
