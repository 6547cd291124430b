package tome_test

import (
	"slices"
	"testing"

	"postil/api"
	"postil/tome"
)

// made is the volume of the chapter's examples.
func made() api.Volume {
	return volume(
		entry(head("age", 3), formOf("old", sureRow(place(0, 1, 0), ref(2, 5, 1)))),
		entry(head("and", 0), formOf("and", sureRow(place(1, 0, 1), ref(0, 0, 0)))),
		entry(head("is", 0), formOf("is", sureRow(place(0, 0, 2), ref(1, 1, 3)))),
		entry(head("olde", 0), formOf("old", openRow(place(0, 0, 3), ref(1, 1, 4)))),
		entry(head("sea", 1), formOf("sea", sureRow(place(0, 0, 1), ref(1, 1, 2)), sureRow(place(0, 1, 2), ref(2, 5, 3)), sureRow(place(1, 0, 0), ref(0, 0, 0)))),
		entry(head("see", 2), formOf("sea", sureRow(place(1, 0, 2), ref(0, 0, 0)))),
		entry(head("the", 0), formOf("the", sureRow(place(0, 0, 0), ref(1, 1, 1)), openRow(place(0, 1, 1), ref(2, 5, 2)))),
	)
}

// The examples of the chapter, row by row.
func TestExamplesOfTheVolume(t *testing.T) {
	v, e := tome.Make(sample())
	wantVolume(t, "make", v, e, made())
	rows, open, e := tome.Count(v)
	wantOne(t, "count", [2]int{rows, open}, e, [2]int{10, 2})
	for _, n := range []int{4, 6} {
		x, e := tome.Of(sample(), made().Entries[n].Head)
		wantEntry(t, "of", x, e, made().Entries[n])
	}
	v, e = tome.In(sample(), six())
	wantList(t, "in six", v.Entries[4].Forms[0].Rows, e, sureRow(place(0, 0, 1), ref(7, 1, 2)), sureRow(place(0, 1, 2), ref(7, 2, 3)), sureRow(place(1, 0, 0), ref(3, 1, 1)))
}

func TestExamplesOfChanged(t *testing.T) {
	l, e := tome.Changed(sample(), form(4, "sea", head("see", api.MarkVerb)))
	wantList(t, "changed", l, e, head("sea", 1), head("see", 2))
}

func TestExamplesOfPrint(t *testing.T) {
	l, e := tome.Print(sample(), head("sea", api.MarkNoun))
	wantList(t, "sea", l, e, "sea/1", "sea 3", "1.1.2: the [sea] is old", "2.5.3: old the [sea]", "-: [sea] and sea")
	l, e = tome.Print(sample(), head("olde", api.MarkNone))
	wantList(t, "olde", l, e, "olde", "old 1", "1.1.4?: is [old] old the")
}

func TestExamplesOfWhatIsWrong(t *testing.T) {
	i, j, k, e := tome.Find(sample(), made(), place(1, 0, 2))
	wantOne(t, "find", [3]int{i, j, k}, e, [3]int{5, 0, 0})
	short := edited(made(), func(v *api.Volume) {
		f := &v.Entries[4].Forms[0]
		f.Rows = slices.Delete(f.Rows, 2, 3)
	})
	l, e := tome.Lacks(sample(), short)
	wantList(t, "lacks", l, e, place(1, 0, 0))
}

// Example 10 of the document: sea, a noun: 1.1.2, 2.5.3, and a place without a reference.
func TestExampleOfTheDocument(t *testing.T) {
	x, e := tome.Of(sample(), head("sea", api.MarkNoun))
	var l []api.Ref
	for _, row := range x.Forms[0].Rows {
		l = append(l, row.Ref)
	}
	wantList(t, "sea", l, e, ref(1, 1, 2), ref(2, 5, 3), ref(0, 0, 0))
}
