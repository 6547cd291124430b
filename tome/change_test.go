package tome_test

import (
	"reflect"
	"slices"
	"strings"
	"testing"

	"postil/api"
	"postil/stem"
	"postil/tome"
)

// otherHeads is all heads whose entries are not the same in two volumes, in order.
func otherHeads(v, w api.Volume) []api.Head {
	var l []api.Head
	for _, x := range slices.Concat(v.Entries, w.Entries) {
		same := func(y api.Entry) bool { return reflect.DeepEqual(x, y) }
		if !(slices.ContainsFunc(v.Entries, same) && slices.ContainsFunc(w.Entries, same)) && !slices.Contains(l, x.Head) {
			l = append(l, x.Head)
		}
	}
	slices.SortFunc(l, func(a, b api.Head) int {
		if a.Stem == b.Stem {
			return int(a.Mark) - int(b.Mark)
		}
		return strings.Compare(a.Stem, b.Stem)
	})
	return l
}

// P10.3: heads whose entries are others with a decision more.
func TestChanged(t *testing.T) {
	sea, see := head("sea", api.MarkNoun), head("see", api.MarkVerb)
	the, age, olde := head("the", 0), head("age", api.MarkOther), head("olde", 0)
	for i, x := range []struct {
		d    api.Decision
		want []api.Head
	}{
		{form(4, "sea", see), []api.Head{sea, see}},
		// Its place is under see already; so are all of a form that is decided the same way.
		{only(4, place(1, 0, 2), see), nil},
		{form(4, "sea", sea), nil},
		{form(4, "nowhere", see), nil},
		// An entry that goes, and one that comes.
		{only(4, place(1, 0, 2), sea), []api.Head{sea, see}},
		{only(4, place(0, 0, 0), head("a", 0)), []api.Head{head("a", 0), the}},
		{form(4, "the", head("the", api.MarkOther)), []api.Head{the, head("the", api.MarkOther)}},
		{form(4, "and", head("olde", 0)), []api.Head{head("and", 0), olde}},
		// What is void goes back, to where the rules put it, or another decision.
		{api.Decision{Number: 4, Kind: api.DecideVoid, Of: 1}, []api.Head{head("sea", 0), sea}},
		{api.Decision{Number: 4, Kind: api.DecideVoid, Of: 2}, []api.Head{age, olde}},
		{api.Decision{Number: 4, Kind: api.DecideVoid, Of: 3}, []api.Head{sea, see}},
		// A form from a place on, behind and ahead of another one.
		{api.Decision{Number: 4, Kind: api.DecideFrom, Form: "old", At: place(0, 0, 0), To: the}, []api.Head{olde, the}},
		{api.Decision{Number: 999, Kind: api.DecideFrom, Form: "old", At: place(0, 1, 0), To: the}, []api.Head{age, the}},
	} {
		l, e := tome.Changed(sample(), x.d)
		wantList(t, i, l, e, x.want...)
	}
	r := with(sample(), func(r *api.Records) { r.Lexicon.Decisions = append(r.Lexicon.Decisions, only(4, place(0, 0, 1), olde)) })
	l, e := tome.Changed(r, api.Decision{Number: 6, Kind: api.DecideFrom, Form: "sea", At: place(0, 0, 0), To: the})
	wantList(t, "from one to another one", l, e, sea, the)
	l, e = tome.Changed(r, form(6, "old", the))
	wantList(t, "olde", l, e, olde, the)
	r.Lexicon.Decisions = r.Lexicon.Decisions[:1]
	l, e = tome.Changed(r, form(6, "old", head("z", 3)))
	wantList(t, "all of it", l, e, olde, head("z", 3))
}

// P10.3, P10.9: a decision changes just the entries from which a place goes, and those to which one comes.
func TestChangedEntries(t *testing.T) {
	d := dice(7)
	changed := 0
	for range 1000 {
		r, more := d.more()
		x, _ := stem.Add(r.Text, r.Lexicon, more)
		decided := with(r, func(r *api.Records) { r.Lexicon = x })
		before, e := tome.Make(r)
		after, f := tome.Make(decided)
		l, g := tome.Changed(r, more)
		wantList(t, []any{r, more}, l, max(e, f, g), otherHeads(before, after)...)
		concerned := map[api.Head]bool{}
		moved, _ := stem.Changes(r.Text, r.Lexicon, more)
		for _, p := range moved {
			from, _ := stem.HeadOf(r.Text, r.Lexicon, p)
			to, _ := stem.HeadOf(r.Text, x, p)
			concerned[from], concerned[to] = true, true
		}
		wantOne(t, []any{r, more}, len(l), g, len(concerned))
		for _, h := range l {
			wantOne(t, []any{r, more}, concerned[h], g, true)
		}
		changed += len(l)
	}
	if changed < 500 {
		t.Error(changed)
	}
}

// P10.9: the lines of heads that are not told are as they were.
func TestLinesOfOtherHeads(t *testing.T) {
	d := dice(8)
	stayed := 0
	for range 200 {
		r, more := d.more()
		x, _ := stem.Add(r.Text, r.Lexicon, more)
		decided := with(r, func(r *api.Records) { r.Lexicon = x })
		l, _ := tome.Changed(r, more)
		v, _ := tome.Make(r)
		for _, x := range v.Entries {
			before, _ := tome.Print(r, x.Head)
			after, e := tome.Print(decided, x.Head)
			if slices.Contains(l, x.Head) {
				wantOne(t, []any{r, more, x.Head}, slices.Equal(before, after), api.OK, false)
				continue
			}
			wantList(t, []any{r, more, x.Head}, after, e, before...)
			stayed++
		}
	}
	if stayed < 200 {
		t.Error(stayed)
	}
}
