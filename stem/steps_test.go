package stem_test

import (
	"slices"
	"strings"
	"testing"

	"postil/api"
	"postil/stem"
)

// P4.1: when rules apply, what they make, and how many turns there are.
func TestSteps(t *testing.T) {
	for _, x := range []struct {
		rules []api.Rule
		want  string
	}{
		{nil, "sea"},
		{[]api.Rule{rule("s", "", 2)}, "seas sea"},
		{[]api.Rule{rule("s", "", 3)}, "seas sea"},
		{[]api.Rule{rule("s", "", 4)}, "seas"},
		{[]api.Rule{rule("sea", "", 1)}, "sea"},
		{[]api.Rule{rule("seas", "", 1)}, "sea"},
		{[]api.Rule{rule("ea", "", 1)}, "sea s"},
		{[]api.Rule{rule("se", "", 1)}, "sea"},
		{[]api.Rule{rule("e", "", 1)}, "sea"},
		{[]api.Rule{rule("s", "", 1)}, "sssss ssss sss ss s"},
		{[]api.Rule{rule("s", "", 1)}, "ssssss sssss ssss sss ss"},
		{[]api.Rule{rule("s", "", 1)}, "ss s"},
		{[]api.Rule{rule("s", "", 3)}, "sssss ssss sss"},
		// The first rule that applies, each time from the first one on.
		{[]api.Rule{rule("es", "", 1), rule("s", "", 1)}, "seas sea"},
		{[]api.Rule{rule("as", "", 1), rule("s", "", 1)}, "seas se"},
		{[]api.Rule{rule("s", "", 1), rule("as", "", 1)}, "seas sea"},
		{[]api.Rule{rule("as", "", 3), rule("s", "", 1)}, "seas sea"},
		{[]api.Rule{rule("x", "y", 1), rule("a", "x", 1)}, "sea sex sey"},
		{[]api.Rule{rule("a", "x", 1), rule("x", "y", 1)}, "sea sex sey"},
		// A rule may come again, and two of them may go round.
		{[]api.Rule{rule("a", "b", 1), rule("b", "a", 1)}, "sea seb sea seb sea"},
		{[]api.Rule{rule("a", "aa", 1)}, "ba baa baaa baaaa baaaaa"},
		// What is made may have twelve letters, and not more.
		{[]api.Rule{rule("l", "lmn", 1)}, "abcdefghijl"},
		{[]api.Rule{rule("l", "lm", 1)}, "abcdefghijl abcdefghijlm"},
		{[]api.Rule{rule("l", "lmn", 1), rule("l", "m", 1)}, "abcdefghijl abcdefghijm"},
		{[]api.Rule{rule("l", "m", 11)}, "abcdefghijkl abcdefghijkm"},
		{[]api.Rule{rule("l", "m", 12)}, "abcdefghijkl"},
		{[]api.Rule{rule("bcdefghijkl", "", 1)}, "abcdefghijkl a"},
		{[]api.Rule{rule("abcdefghijkl", "", 1)}, "abcdefghijkl"},
		{[]api.Rule{rule("l", "abcdefghijkl", 1)}, "al"},
		{[]api.Rule{rule("l", "bcdefghijkl", 1)}, "al abcdefghijkl"},
		{[]api.Rule{rule("b", "", 1), rule("aa", "aab", 1)}, "caa caab caa caab caa"},
	} {
		want := strings.Fields(x.want)
		l, e := stem.Steps(sample(), ruled(x.rules...), want[0])
		wantList(t, x.rules, l, e, want...)
	}
}

// P4.9: steps are made by the first rule that applies, each one; no rule applies to a stem but one that is reached in four of them.
func TestStepsByFirstRules(t *testing.T) {
	d := dice(1)
	lengths := map[int]int{}
	for range 2000 {
		base := d.text()
		x := d.lexicon(base, 5)
		word := d.word() + one(&d, "", d.word(), d.word()+d.word())
		l, e := stem.Steps(base, x, word)
		if len(l) == 0 || l[0] != word || e != api.OK {
			t.Fatal(x, word, l, e)
		}
		for i, step := range l {
			first := slices.IndexFunc(x.Rules, func(r api.Rule) bool { return applies(r, step) })
			switch {
			case i+1 == len(l) && i < 4 && first >= 0:
				t.Errorf("%v: %v, though a rule applies", x, l)
			case i+1 < len(l) && (first < 0 || l[i+1] != made(x.Rules[first], step)):
				t.Errorf("%v: %v, not by the first rule", x, l)
			}
		}
		lengths[len(l)]++
	}
	for n := 1; n <= 5; n++ {
		if lengths[n] < 20 {
			t.Error(lengths)
		}
	}
	if len(lengths) != 5 {
		t.Error(lengths)
	}
}

// P4.1: steps have nothing to do with decisions, nor with what stands in the text.
func TestStepsAreByRules(t *testing.T) {
	d := dice(2)
	for range 200 {
		base := d.text()
		x := d.lexicon(base, 10)
		word := one(&d, "a", "b", "abab", "nowhere", long)
		a, e := stem.Steps(base, x, word)
		b, f := stem.Steps(sample(), ruled(x.Rules...), word)
		if !slices.Equal(a, b) || e != api.OK || f != api.OK {
			t.Errorf("%v of %q: %v, %v and %v, %v", x, word, a, e, b, f)
		}
	}
}
