package proof

import "postil/api"

// within tells whether all numbers are in a span.
func within(s api.Span, numbers ...int) bool {
	for _, n := range numbers {
		if n < s.Lo || n > s.Hi {
			return false
		}
	}
	return true
}

// isIndex tells whether a list of this length has the index.
func isIndex(i, length int) bool { return within(api.Span{Lo: 0, Hi: length - 1}, i) }

func isReader(r api.Reader) bool {
	return within(api.Span{Lo: 0, Hi: api.MaxId}, r.Id) && within(api.Span{Lo: 0, Hi: api.MaxMiss}, r.Miss)
}

// areReaders tells whether proofs may have these readers, side by side.
func areReaders(readers [2][]api.Reader) bool {
	known := map[int]bool{}
	for _, l := range readers {
		if len(l) > api.MaxReaders {
			return false
		}
		for _, r := range l {
			if !isReader(r) || known[r.Id] {
				return false
			}
			known[r.Id] = true
		}
	}
	return true
}

// arePages tells whether the proofs, with their readers, may have their pages: one that is wrong is not counted.
func (p proofs) arePages() bool {
	if len(p.Pages) > api.MaxPages {
		return false
	}
	right, last := 0, -1
page:
	for _, page := range p.Pages {
		if page.From <= last || !within(api.Span{Lo: page.From, Hi: len(p.lines) - 1}, page.To) {
			continue page
		}
		for n, s := range sides() {
			if !within(api.Span{Lo: -1, Hi: len(p.readers()[n]) - 1}, s.reader(page)) || !p.isFound(page, s) {
				continue page
			}
		}
		right, last = right+1, page.To
	}
	return right == len(p.Pages)
}

// isFound tells whether the reader of a side may have found on a page what is told: places of it, in order, no one twice, and none if nobody has read it.
func (p proofs) isFound(page api.Page, s side) bool {
	l := s.found(page)
	if s.reader(page) < 0 {
		return len(l) == 0
	}
	n := 0
	for _, at := range p.placesOf(page) {
		if n < len(l) && l[n] == at {
			n++
		}
	}
	return n == len(l)
}
