package proof

import (
	"cmp"
	"iter"
	"slices"

	"postil/api"
)

// set is some pages, or some readers, each one a bit.
type set uint

func (s set) has(i int) bool { return s>>i&1 == 1 }

// limit is what a reader bounds: on these pages, together, no more than so many errors are left to remain.
type limit struct {
	pages set
	left  int
}

// room is how many errors may remain at most: on each page, by its words, and by each reader, first readers before second ones. Truths are all ways to stay within all of these.
type room struct {
	pages   []int
	readers []limit
}

// room returns what may remain: ErrBad if there is no truth.
func (p proofs) room() (room, api.Errno) {
	var r room
	var found []int
	for _, page := range p.Pages {
		n := len(p.found(page))
		found = append(found, n)
		r.pages = append(r.pages, len(p.placesOf(page))-n)
	}
	for pages, bound := range p.bounds() {
		left := bound - sum(found, pages)
		if left < 0 {
			return room{}, api.ErrBad
		}
		r.readers = append(r.readers, limit{pages, left})
	}
	return r, api.OK
}

// sum returns the sum of those numbers that are in a set.
func sum(numbers []int, of set) int {
	n := 0
	for i, number := range numbers {
		if of.has(i) {
			n += number
		}
	}
	return n
}

// proved returns how many errors remain at most, as some readers prove.
func (r room) proved(some set) int {
	n := 0
	var read set
	for i, reader := range r.readers {
		if some.has(i) {
			n += reader.left
			read |= reader.pages
		}
	}
	return n + sum(r.pages, ^read)
}

// most returns how many errors remain at most, in a truth. As no page has more than one reader of a side, this is as much as the readers prove who prove the least: it is the flow from first readers through pages to second ones.
func (r room) most() int {
	least := r.proved(0)
	for some := range set(1) << len(r.readers) {
		least = min(least, r.proved(some))
	}
	return least
}

// span returns how many errors remain, at least and at most, in a truth: where more remain in one, less may.
func (r room) span() api.Span { return api.Span{Lo: 0, Hi: r.most()} }

// only returns the room that is left if errors may remain on some pages only.
func (r room) only(some set) room {
	pages := make([]int, len(r.pages))
	for i := range len(pages) {
		if some.has(i) {
			pages[i] = r.pages[i]
		}
	}
	return room{pages, r.readers}
}

// less returns the room that is left for all other pages if so many errors remain on a page.
func (r room) less(page, many int) room {
	readers := slices.Clone(r.readers)
	for i := range readers {
		if readers[i].pages.has(page) {
			readers[i].left -= many
		}
	}
	return room{r.only(^(1 << page)).pages, readers}
}

// worst returns how many errors remain on each page in the worst truth: the most on all pages, and of several such truths the most on the first page, and so on.
func (r room) worst() []int {
	var l []int
	for page := range len(r.pages) {
		most, many := r.most(), r.only(1<<page).most()
		for many+r.less(page, many).most() < most {
			many--
		}
		l = append(l, many)
		r = r.less(page, many)
	}
	return l
}

// why returns the readers who prove the most that remains.
func (r room) why() []int {
	most := r.most()
	return fewest(len(r.readers), func(some set) bool { return r.proved(some) == most })
}

// chief returns the pages that the chief has to read, so that at most so many errors remain on all other ones.
func (r room) chief(most int) []int {
	return fewest(len(r.pages), func(some set) bool { return r.only(^some).most() <= most })
}

// fewest returns the shortest list of a set, of so many things, of which something is so, and of several such lists the first one.
func fewest(many int, isSo func(some set) bool) []int {
	return first(lists(many, isSo), func(a, b []int) bool {
		return cmp.Or(cmp.Compare(len(a), len(b)), slices.Compare(a, b)) < 0
	})
}

// lists yields the lists of all sets, of so many things, of which something is so.
func lists(many int, isSo func(some set) bool) iter.Seq[[]int] {
	return func(yield func([]int) bool) {
		for some := range set(1) << many {
			if isSo(some) && !yield(told(many, some.has)) {
				return
			}
		}
	}
}

// told returns all numbers below a limit of which something is so, in increasing order.
func told(limit int, isSo func(n int) bool) []int {
	var l []int
	for n := range limit {
		if isSo(n) {
			l = append(l, n)
		}
	}
	return l
}

// first returns the one of some things that goes ahead of all others, and of several such ones the first one.
func first[T any](l iter.Seq[T], ahead func(a, b T) bool) T {
	var best T
	found := false
	for x := range l {
		if !found || ahead(x, best) {
			best, found = x, true
		}
	}
	return best
}
