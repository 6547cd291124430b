package galley

import (
	"iter"
	"maps"
	"slices"

	"postil/api"
)

// galley is a galley at work: it has its places, which are 0 and all numbers of lines behind which a column may end, in increasing order.
type galley struct {
	api.Galley
	places []int
}

// begin returns a galley at work: ErrGalley unless it is valid.
func begin(g api.Galley) (galley, api.Errno) {
	if !isGalley(g) {
		return galley{}, api.ErrGalley
	}
	work := galley{Galley: g, places: []int{0}}
	for end := range work.ends() {
		work.places = append(work.places, end)
	}
	return work, api.OK
}

// together is how many lines of a block that is torn stand together, at least, on either side.
const together = 2

// side is a side of a block that is torn: how many lines are there, if it is torn behind so many of all its lines.
type side struct {
	lines func(before, all int) int
}

// sides is the array of both sides of a block that is torn: what is before, and what comes behind.
func sides() [2]side {
	return [...]side{
		{lines: func(before, all int) int { return before }},
		{lines: func(before, all int) int { return all - before }},
	}
}

// mayTear tells whether a block may be torn behind so many of all its lines.
func mayTear(before, all int) bool {
	for _, s := range sides() {
		if s.lines(before, all) < together {
			return false
		}
	}
	return true
}

// ends yields all numbers of lines behind which a column may end, in increasing order.
func (g galley) ends() iter.Seq[int] {
	return func(yield func(int) bool) {
		begin := 0
		for _, b := range g.Blocks {
			for line := range b.Lines {
				before := line + 1
				may := before == b.Lines || mayTear(before, b.Lines)
				if may && !yield(begin+before) {
					return
				}
			}
			begin += b.Lines
		}
	}
}

// total returns how many lines there are: the last place is behind all of them.
func (g galley) total() int { return g.places[len(g.places)-1] }

// linesOf returns the lines of a block.
func (g galley) linesOf(block int) api.Span {
	begin := 0
	for _, b := range g.Blocks[:block] {
		begin += b.Lines
	}
	return between(begin, begin+g.Blocks[block].Lines)
}

// between returns the lines between two places, whichever of them comes first.
func between(a, b int) api.Span { return api.Span{Lo: min(a, b), Hi: max(a, b) - 1} }

// many returns how many lines there are from one to another one, both with it.
func many(lines api.Span) int { return lines.Hi - lines.Lo + 1 }

// waste returns the waste of a column, by its lines.
func (g galley) waste(column api.Span) int {
	if column.Hi == g.total()-1 {
		return 0
	}
	short := g.Height - many(column)
	return short * short
}

// breaking is a breaking at work: it has the lines of each column.
type breaking struct {
	galley
	columns []api.Span
}

// beginBreaks returns a breaking at work: begin's error, and ErrBreaks unless it is valid.
func beginBreaks(g api.Galley, breaks []int) (breaking, api.Errno) {
	work, e := begin(g)
	if e != api.OK {
		return breaking{}, e
	}
	b := breaking{galley: work}
	last := 0
	for _, end := range breaks {
		// A number that is no place may be so far off that the lines up to it could not be counted.
		if !slices.Contains(work.places, end) || !within(api.Span{Lo: 1, Hi: work.Height}, end-last) {
			return breaking{}, api.ErrBreaks
		}
		b.columns = append(b.columns, between(last, end))
		last = end
	}
	if last != work.total() {
		return breaking{}, api.ErrBreaks
	}
	return b, api.OK
}

// wasted returns the waste of all columns together.
func (b breaking) wasted() int {
	sum := 0
	for _, column := range b.columns {
		sum += b.waste(column)
	}
	return sum
}

// columnOf returns the column that has a line.
func (b breaking) columnOf(line int) int {
	return slices.IndexFunc(b.columns, func(column api.Span) bool { return within(column, line) })
}

// columnsOf returns the columns that have the first line of a block, and its last one.
func (b breaking) columnsOf(block int) (first, last int) {
	lines := b.linesOf(block)
	return b.columnOf(lines.Lo), b.columnOf(lines.Hi)
}

// torn returns all blocks that have lines in more than one column, in increasing order.
func (b breaking) torn() []int {
	torn := map[int]bool{}
	for block := range b.Blocks {
		torn[block] = true
	}
	for block := range b.Blocks {
		if first, last := b.columnsOf(block); first == last {
			delete(torn, block)
		}
	}
	return slices.Sorted(maps.Keys(torn))
}
