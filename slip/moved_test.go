package slip_test

import (
	"slices"
	"testing"

	"postil/api"
	"postil/leaf"
	"postil/slip"
)

// P3.7: words that are put in ahead of a place, or at it, take it further, and those left out ahead of it take it back; others do not.
func TestMoved(t *testing.T) {
	base := book("a b c/d e f", "g h")
	put := func(chapter, line, word int) api.Reading { return reading(api.ReadPut, chapter, line, word, "x") }
	omit := func(chapter, line, word int) api.Reading { return reading(api.ReadOmit, chapter, line, word, "") }
	other := func(chapter, line, word int) api.Reading { return reading(api.ReadOther, chapter, line, word, "x") }
	for i, x := range []struct {
		l    []api.Reading
		want int // of the word 1 of the line 1; -1 if it is left out
	}{
		{nil, 1},
		{[]api.Reading{put(0, 1, 0)}, 2},
		{[]api.Reading{put(0, 1, 1)}, 2},
		{[]api.Reading{put(0, 1, 2)}, 1},
		{[]api.Reading{put(0, 1, 3)}, 1},
		{[]api.Reading{put(0, 1, 0), put(0, 1, 0), put(0, 1, 1), put(0, 1, 1), put(0, 1, 1), put(0, 1, 2)}, 6},
		{[]api.Reading{omit(0, 1, 0)}, 0},
		{[]api.Reading{omit(0, 1, 1)}, -1},
		{[]api.Reading{put(0, 1, 1), omit(0, 1, 1)}, -1},
		{[]api.Reading{put(0, 1, 1), omit(0, 1, 1), put(0, 1, 2)}, -1},
		{[]api.Reading{omit(0, 1, 2)}, 1},
		{[]api.Reading{omit(0, 1, 0), omit(0, 1, 2)}, 0},
		{[]api.Reading{put(0, 1, 0), omit(0, 1, 0)}, 1},
		{[]api.Reading{put(0, 1, 0), omit(0, 1, 0), put(0, 1, 1), other(0, 1, 1)}, 2},
		{[]api.Reading{other(0, 1, 0)}, 1},
		{[]api.Reading{other(0, 1, 1)}, 1},
		{[]api.Reading{other(0, 1, 2)}, 1},
		{[]api.Reading{put(0, 0, 0), omit(0, 0, 0), omit(0, 0, 1), put(0, 0, 3), put(1, 0, 0), put(1, 0, 1)}, 1},
		{[]api.Reading{put(0, 0, 0), put(0, 0, 1), omit(1, 0, 0)}, 1},
	} {
		to, e := slip.Moved(base, copyOf(x.l...), place(0, 1, 1))
		if x.want == -1 {
			if to != place(0, 0, 0) || e != api.ErrNone {
				t.Error(i, to, e)
			}
			continue
		}
		wantOne(t, i, to, e, place(0, 1, x.want))
	}
}

// P3.7 and P3.13: what a copy has in a place is at the place to which it is moved, and places keep their order.
func TestMovedPlaces(t *testing.T) {
	d := dice(10)
	for range 200 {
		base := d.text(6)
		c := d.copied(t, base)
		read, _ := leaf.Read(base, c)
		last := -1
		for _, p := range places(base) {
			stands, _ := leaf.Stands(base, c, p)
			to, e := slip.Moved(base, c, p)
			if stands == "" {
				if to != place(0, 0, 0) || e != api.ErrNone {
					t.Errorf("%v by %v: %v, %v", p, c, to, e)
				}
				continue
			}
			word, f := leaf.At(read, to)
			n, _ := leaf.Number(read, to)
			if word != stands || e != api.OK || f != api.OK || n <= last || to.Chapter != p.Chapter || to.Line != p.Line {
				t.Errorf("%v by %v: %v, %v, where %q stands, not %q", p, c, to, e, word, stands)
			}
			last = n
		}
	}
}

// P3.13: where a chapter of a copy is as the base's, slips are the same.
func TestSlipsOfCopies(t *testing.T) {
	d := dice(11)
	for range 100 {
		base, c := d.text(5), d.cut()
		y := d.copied(t, base)
		whole := d.roll(len(base.Chapters))
		y.Readings = slices.DeleteFunc(y.Readings, func(r api.Reading) bool { return r.At.Chapter == whole })
		read, _ := leaf.Read(base, y)
		for _, p := range places(base) {
			if p.Chapter != whole {
				continue
			}
			a, e := slip.Make(base, c, p)
			b, f := slip.Make(read, c, p)
			to, g := slip.Moved(base, y, p)
			if a != b || to != p || max(e, f, g) != api.OK {
				t.Errorf("%v, not %v, moved to %v: %v, %v, %v", b, a, to, e, f, g)
			}
		}
	}
}

// P3.7: ErrCopy, ErrPlace and ErrNone, in this order.
func TestErrorsOfMoved(t *testing.T) {
	base := sample()
	bad := []api.Copy{copyOf(reading(api.ReadOmit, 0, 0, 4, "")), copyOf(reading(api.ReadPut, 0, 0, 5, "x")), copyOf(reading(api.ReadOther, 0, 0, 0, "the")), copyOf(reading(0, 0, 0, 0, "")), copyOf(slices.Repeat([]api.Reading{reading(api.ReadPut, 0, 0, 0, "x")}, 7)...)}
	for _, n := range far {
		bad = append(bad, api.Copy{Id: n})
	}
	for _, y := range bad {
		for _, p := range append(noPlaces(base), places(base)...) {
			wantErrors(t, input{t: base, y: y, p: p}, errorsOf(api.ErrCopy, "Moved"))
		}
	}
	for _, p := range noPlaces(base) {
		wantErrors(t, input{t: base, y: sampleCopy(), p: p}, errorsOf(api.ErrPlace, "Moved"))
	}
	// A place behind a line is one of the copy, but not of the base.
	wantErrors(t, input{t: base, y: sampleCopy(), p: place(1, 0, 3)}, errorsOf(api.ErrPlace, "Moved"))
	wantErrors(t, input{t: base, y: sampleCopy(), p: place(0, 1, 1)}, errorsOf(api.ErrNone, "Moved"))
}
