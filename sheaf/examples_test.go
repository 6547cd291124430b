package sheaf_test

import (
	"testing"

	"postil/api"
	"postil/sheaf"
)

// The examples of the chapter, row by row.
func TestExamplesOfBytes(t *testing.T) {
	s, e := sheaf.Write(rows("ab", "b"))
	wantOne(t, "write", s, e, "ab sg\nb ea\n")
	l, bytes, e := sheaf.Read(s[:len(s)-1])
	wantList(t, "read", l, e, "ab")
	wantOne(t, "bytes", bytes, e, 6)
}

func TestExamplesOfShelves(t *testing.T) {
	s, e := sheaf.Save(shelf(rows("ab", "b")), rows("ab", "c", "b"))
	wantAny(t, "save", s, e, shelf(rows("ab", "b"), hunk(1, 0, "c")))
	s, e = sheaf.Save(s, rows("c", "b"))
	wantAny(t, "save again", s, e, shelf(rows("ab", "b"), hunk(1, 0, "c"), hunk(0, 1)))
	l, e := sheaf.Back(s, 1)
	wantList(t, "back", l, e, "ab", "c", "b")
	s, e = sheaf.Prune(s, 1)
	wantAny(t, "prune", s, e, shelf(rows("ab", "c", "b"), hunk(0, 1)))
}

func TestExamplesOfKinds(t *testing.T) {
	l, e := sheaf.OfCopy(sample(), cold())
	wantList(t, "of copy", l, e, "copy 4", "other 0 0 3 cold", "omit 0 1 1", "put 1 0 3 salt")
	c, e := sheaf.ToCopy(sample(), l)
	wantAny(t, "to copy", c, e, cold())
}

func TestExamplesOfMerge(t *testing.T) {
	l, e := sheaf.Merge(rows("a", "b", "c"), rows("x", "b", "c"), rows("a", "b"))
	wantList(t, "merge", l, e, "x", "b")
	l, e = sheaf.Merge(rows("a", "b"), rows("x", "b"), rows("a", "y"))
	if len(l) != 0 || e != api.ErrMerge {
		t.Error(l, e)
	}
}

// Example 11 of the document: ab sg: the row "ab" with its check.
func TestExampleOfTheDocument(t *testing.T) {
	s, e := sheaf.Write(rows("ab"))
	wantOne(t, "write", s, e, "ab sg\n")
}
