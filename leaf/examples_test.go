package leaf_test

import (
	"testing"

	"postil/api"
	"postil/leaf"
)

// The examples of the chapter, row by row.
func TestExamplesOfPlaces(t *testing.T) {
	base := sample()
	if n, e := leaf.Words(base); n != 10 || e != api.OK {
		t.Error(n, e)
	}
	if s, e := leaf.At(base, place(0, 1, 0)); s != "old" || e != api.OK {
		t.Error(s, e)
	}
	if n, e := leaf.Number(base, place(1, 0, 0)); n != 7 || e != api.OK {
		t.Error(n, e)
	}
	if p, e := leaf.PlaceOf(base, 6); p != place(0, 1, 2) || e != api.OK {
		t.Error(p, e)
	}
	if l, e := leaf.Places(base, "sea"); !same(l, []api.Place{place(0, 0, 1), place(0, 1, 2), place(1, 0, 0), place(1, 0, 2)}, e) {
		t.Error(l, e)
	}
	if l, e := leaf.Vocabulary(base); !same(l, []string{"and", "is", "old", "sea", "the"}, e) {
		t.Error(l, e)
	}
}

func TestExamplesOfCopies(t *testing.T) {
	base, c := sample(), sampleCopy()
	read, e := leaf.Read(base, c)
	if words(read) != "the sea is cold/old sea|sea and sea salt" || e != api.OK {
		t.Error(words(read), e)
	}
	for p, want := range map[api.Place]string{place(0, 0, 3): "cold", place(0, 1, 1): "", place(0, 1, 2): "sea"} {
		if s, e := leaf.Stands(base, c, p); s != want || e != api.OK {
			t.Error(p, s, e)
		}
	}
	n, e := leaf.Apart(base, read)
	found, f := leaf.Find(base, read, c.Id)
	if n != 3 || e != api.OK || !same(found.Readings, c.Readings, f) || found.Id != c.Id {
		t.Error(n, e, found, f)
	}
	if l, e := leaf.Doubt(base, []api.Copy{c}); !same(l, []api.Place{place(0, 0, 3), place(0, 1, 1)}, e) {
		t.Error(l, e)
	}
	turned := sample()
	turned.Chapters[0].Lines[1] = []string{"the", "old", "sea"}
	found, e = leaf.Find(base, turned, 2)
	if !same(found.Readings, []api.Reading{other(0, 1, 0, "the"), other(0, 1, 1, "old")}, e) {
		t.Error(found, e)
	}
}
