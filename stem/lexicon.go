package stem

import (
	"cmp"
	"iter"
	"slices"
	"strings"

	"postil/api"
	"postil/leaf"
)

// lexicon is a lexicon at work: its decisions are in order by their Numbers. It has those of them that stand, and all places of its text, in order, with the words that stand there.
type lexicon struct {
	api.Lexicon
	standing []api.Decision
	places   []api.Place
	words    []string
}

// begin returns a lexicon at work: leaf.Check's error of the text, and ErrLexicon unless the lexicon is valid.
func begin(t api.Text, x api.Lexicon) (lexicon, api.Errno) {
	if e := leaf.Check(t); e != api.OK {
		return lexicon{}, e
	}
	work := lexicon{Lexicon: x}
	for i, chapter := range t.Chapters {
		for n, line := range chapter.Lines {
			for w, word := range line {
				work.places = append(work.places, api.Place{Chapter: i, Line: n, Word: w})
				work.words = append(work.words, word)
			}
		}
	}
	if !areRules(x.Rules) || !work.areDecisions(x.Decisions) {
		return lexicon{}, api.ErrLexicon
	}
	return work.deciding(x.Decisions), api.OK
}

func (x lexicon) hasPlace(p api.Place) bool { return slices.Contains(x.places, p) }

// deciding returns the lexicon at work with these decisions in place of its own ones.
func (x lexicon) deciding(l []api.Decision) lexicon {
	x.Decisions = slices.SortedFunc(slices.Values(l), func(a, b api.Decision) int { return cmp.Compare(a.Number, b.Number) })
	stands := whichStand(x.Decisions)
	x.standing = told(x.Decisions, func(n int) bool { return stands[x.Decisions[n].Number] })
	return x
}

// whichStand returns the Numbers of all decisions that stand, of a list that is in order by them.
func whichStand(l []api.Decision) map[int]bool {
	stands := map[int]bool{}
	for _, d := range l {
		stands[d.Number] = true
	}
	// From the greatest Number down, as only a decision that stands makes others void.
	for _, d := range slices.Backward(l) {
		if d.Kind == api.DecideVoid && stands[d.Number] {
			delete(stands, d.Of)
		}
	}
	return stands
}

// without returns the lexicon at work without the decision at an index.
func (x lexicon) without(n int) lexicon {
	return x.deciding(slices.Concat(x.Decisions[:n], x.Decisions[n+1:]))
}

// turned returns what the first rule that applies to a word makes of it, and whether one does.
func (x lexicon) turned(word string) (string, bool) {
rule:
	for _, r := range x.Rules {
		left, ends := strings.CutSuffix(word, r.Cut)
		if !ends || len(left) < r.Least || len(left)+len(r.Put) > api.MaxLetters {
			continue rule
		}
		return left + r.Put, true
	}
	return "", false
}

// steps returns the steps of a word.
func (x lexicon) steps(word string) []string {
	l := []string{word}
	goOn := func() bool {
		made, applies := x.turned(l[len(l)-1])
		if applies {
			l = append(l, made)
		}
		return applies
	}
	for range api.MaxTurns {
		if !goOn() {
			break
		}
	}
	return l
}

// concerning yields the decisions that stand and concern the place at an index.
func (x lexicon) concerning(n int) iter.Seq[api.Decision] {
	return func(yield func(api.Decision) bool) {
		table := kinds()
		for _, d := range x.standing {
			if table[d.Kind].concerns(d, x.words[n], x.places[n]) && !yield(d) {
				return
			}
		}
	}
}

// decision returns the decision whose To is the head of the place at an index, and a zero one if that comes by rules.
func (x lexicon) decision(n int) api.Decision {
	var first api.Decision
	for d := range x.concerning(n) {
		if compareDecisions(d, first) > 0 {
			first = d
		}
	}
	return first
}

// compareDecisions compares two decisions that concern the same place: the greater one goes first. The kinds go first as their numbers are greater, and of the same kind only those from a place on may differ in At.
func compareDecisions(a, b api.Decision) int {
	return cmp.Or(cmp.Compare(a.Kind, b.Kind), comparePlaces(a.At, b.At), cmp.Compare(a.Number, b.Number))
}

// head returns the head of the place at an index.
func (x lexicon) head(n int) api.Head {
	d := x.decision(n)
	if d.Number > 0 {
		return d.To
	}
	l := x.steps(x.words[n])
	return api.Head{Stem: l[len(l)-1], Mark: api.MarkNone}
}

// heads returns the heads of all places, in the order of these.
func (x lexicon) heads() []api.Head {
	var l []api.Head
	for n := range len(x.places) {
		l = append(l, x.head(n))
	}
	return l
}

func comparePlaces(a, b api.Place) int {
	return cmp.Or(cmp.Compare(a.Chapter, b.Chapter), cmp.Compare(a.Line, b.Line), cmp.Compare(a.Word, b.Word))
}

func compareHeads(a, b api.Head) int {
	return cmp.Or(strings.Compare(a.Stem, b.Stem), cmp.Compare(a.Mark, b.Mark))
}

// told returns those things of a list of whose indices something is so.
func told[T any](l []T, isSo func(n int) bool) []T {
	var some []T
	for n, x := range l {
		if isSo(n) {
			some = append(some, x)
		}
	}
	return some
}

// onceInOrder returns a new list of the same things, each once, in the order of compare.
func onceInOrder[T comparable](l []T, compare func(a, b T) int) []T {
	return slices.Compact(slices.SortedFunc(slices.Values(l), compare))
}

// numbersOf returns the Numbers of decisions.
func numbersOf(l []api.Decision) []int {
	var numbers []int
	for _, d := range l {
		numbers = append(numbers, d.Number)
	}
	return numbers
}
