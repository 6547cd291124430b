package stem_test

import (
	"testing"

	"postil/api"
	"postil/stem"
)

// The examples of the chapter, row by row.
func TestExamplesOfSteps(t *testing.T) {
	for _, want := range [][]string{{"old", "olde"}, {"seas", "sea"}, {"is"}} {
		l, e := stem.Steps(sample(), sampleLexicon(), want[0])
		wantList(t, want[0], l, e, want...)
	}
}

func TestExamplesOfHeads(t *testing.T) {
	for _, x := range []struct {
		p    api.Place
		want api.Head
		by   int
	}{
		{place(0, 0, 3), head("olde", 0), 0},
		{place(0, 1, 0), head("age", 3), 2},
		{place(1, 0, 0), head("sea", 1), 1},
		{place(1, 0, 2), head("see", 2), 3},
	} {
		h, e := stem.HeadOf(sample(), sampleLexicon(), x.p)
		wantOne(t, x.p, h, e, x.want)
		by, e := stem.By(sample(), sampleLexicon(), x.p)
		wantOne(t, x.p, by, e, x.by)
	}
	l, e := stem.Heads(sample(), sampleLexicon())
	wantList(t, "heads", l, e, head("age", 3), head("and", 0), head("is", 0), head("olde", 0), head("sea", 1), head("see", 2), head("the", 0))
	under, e := stem.Under(sample(), sampleLexicon(), head("sea", 1))
	wantList(t, "under sea", under, e, place(0, 0, 1), place(0, 1, 2), place(1, 0, 0))
	forms, e := stem.Forms(sample(), sampleLexicon(), head("age", 3))
	wantList(t, "forms of age", forms, e, "old")
	forms, e = stem.Forms(sample(), sampleLexicon(), head("see", 2))
	wantList(t, "forms of see", forms, e, "sea")
	homographs, e := stem.Homographs(sample(), sampleLexicon())
	wantList(t, "homographs", homographs, e, "old", "sea")
}

func TestExamplesOfDecisions(t *testing.T) {
	d := form(4, "sea", head("see", api.MarkVerb))
	changes, e := stem.Changes(sample(), sampleLexicon(), d)
	wantList(t, "changes", changes, e, place(0, 0, 1), place(0, 1, 2), place(1, 0, 0))
	more, e := stem.Add(sample(), sampleLexicon(), d)
	wantList(t, "decisions", more.Decisions, e, append(sampleLexicon().Decisions, d)...)
	wantList(t, "rules", more.Rules, e, sampleLexicon().Rules...)
	idle, e := stem.Idle(sample(), more)
	wantList(t, "idle", idle, e, 1, 3)
	voided := with(sampleLexicon(), void(5, 3))
	standing, e := stem.Standing(sample(), voided)
	wantList(t, "standing", standing, e, 1, 2, 5)
	h, e := stem.HeadOf(sample(), voided, place(1, 0, 2))
	wantOne(t, "void", h, e, head("sea", api.MarkNoun))
}
