package hand

import (
	"iter"
	"slices"

	"postil/api"
	"postil/leaf"
)

// never is more than faults of any part cost.
const never = 1000

// line is a line of the text, with its number there, by which faults are told.
type line struct {
	number int
	words  []string
}

// writing is a part that is gone through with its sheet: the lines of both, and what faults cost, at least, from where they stand.
type writing struct {
	part  []line
	sheet [][]string
	known map[stand]int
}

// stand is how many lines of a part and of its sheet are gone through, and whether the last one of the part was written.
type stand struct {
	part, sheet int
	isWritten   bool
}

// newWriting returns the writing of a part that is back.
func (r round) newWriting(part int) writing {
	w := writing{sheet: r.Sheets[part].Lines, known: map[stand]int{}}
	for n, words := range r.linesOf(part) {
		w.part = append(w.part, line{n, words})
	}
	return w
}

func (w writing) isEnd(s stand) bool { return s.part == len(w.part) && s.sheet == len(w.sheet) }

// deed is what a helper may do with a line: where it leads, which fault it is (a zero one, if it is none), and whether it may be done.
type deed struct {
	do func(w writing, s stand) (to stand, fault api.Fault, may bool)
}

// deeds is the array of deeds, in the order in which they are taken.
func deeds() [3]deed { return [...]deed{{do: repeat}, {do: write}, {do: skip}} }

func repeat(w writing, s stand) (stand, api.Fault, bool) {
	if !s.isWritten || s.sheet == len(w.sheet) {
		return stand{}, api.Fault{}, false
	}
	last := w.part[s.part-1]
	if !slices.Equal(w.sheet[s.sheet], last.words) {
		return stand{}, api.Fault{}, false
	}
	return stand{s.part, s.sheet + 1, true}, api.Fault{Kind: api.FaultRepeat, Line: last.number}, true
}

func write(w writing, s stand) (stand, api.Fault, bool) {
	if s.part == len(w.part) || s.sheet == len(w.sheet) {
		return stand{}, api.Fault{}, false
	}
	to, fault, next := stand{s.part + 1, s.sheet + 1, true}, api.Fault{}, w.part[s.part]
	if words, _ := leaf.Apart(textOf(next.words), textOf(w.sheet[s.sheet])); words > 0 {
		fault = api.Fault{Kind: api.FaultRead, Line: next.number, Words: words}
	}
	return to, fault, true
}

func skip(w writing, s stand) (stand, api.Fault, bool) {
	if s.part == len(w.part) {
		return stand{}, api.Fault{}, false
	}
	return stand{s.part + 1, s.sheet, false}, api.Fault{Kind: api.FaultSkip, Line: w.part[s.part].number}, true
}

// cost returns what a fault costs, and 0 if it is none.
func cost(f api.Fault) int {
	if f.Kind == api.FaultSkip || f.Kind == api.FaultRepeat {
		return 1
	}
	return f.Words
}

// step is what is done with a line, and what it and all that follows cost, at least.
type step struct {
	to    stand
	fault api.Fault
	cost  int
}

// steps yields what may be done next, in the order of deeds.
func (w writing) steps(s stand) iter.Seq[step] {
	return func(yield func(step) bool) {
		for _, d := range deeds() {
			to, fault, may := d.do(w, s)
			if may && !yield(step{to, fault, cost(fault) + w.least(to)}) {
				return
			}
		}
	}
}

// least returns what faults cost, at least, that explain all that follows: never, if none do.
func (w writing) least(s stand) int {
	if w.isEnd(s) {
		return 0
	}
	least, isKnown := w.known[s]
	if !isKnown {
		least = never
		for x := range w.steps(s) {
			least = min(least, x.cost)
		}
		w.known[s] = least
	}
	return least
}

// faults returns the faults that explain the sheet and cost the least, of a sheet that some faults explain.
func (w writing) faults() []api.Fault {
	var l []api.Fault
	for s := (stand{}); !w.isEnd(s); {
		next := first(w.steps(s), func(a, b step) bool { return a.cost < b.cost })
		if next.fault != (api.Fault{}) {
			l = append(l, next.fault)
		}
		s = next.to
	}
	return l
}
