package sheaf

import (
	"slices"

	"postil/api"
)

// file is a shelf at work: it is valid, and has the rows of all its generations.
type file struct {
	api.Shelf
	generations [][]string
}

// begin returns a shelf at work: ErrShelf unless it is valid.
func begin(s api.Shelf) (file, api.Errno) {
	f := file{Shelf: s}
	// The first generation has no hunk.
	if len(f.Changes) >= api.MaxGenerations || !areRows(f.First...) {
		return file{}, api.ErrShelf
	}
	last := slices.Clone(f.First)
	f.generations = append(f.generations, last)
	for _, h := range f.Changes {
		if !fits(h, last) {
			return file{}, api.ErrShelf
		}
		last = changed(last, h)
		f.generations = append(f.generations, last)
	}
	return f, api.OK
}

// beginAt returns a shelf at work: begin's error, and ErrArg unless it has a generation.
func beginAt(s api.Shelf, generation int) (file, api.Errno) {
	f, e := begin(s)
	if e != api.OK {
		return file{}, e
	}
	if !within(api.Span{Lo: 0, Hi: len(f.generations) - 1}, generation) {
		return file{}, api.ErrArg
	}
	return f, api.OK
}

// last returns the rows of the last generation.
func (f file) last() []string { return f.generations[len(f.generations)-1] }

// from returns the shelf without all generations before one.
func (f file) from(generation int) api.Shelf {
	s := api.Shelf{First: f.generations[generation]}
	for _, h := range f.Changes[generation:] {
		s.Changes = append(s.Changes, api.Hunk{At: h.At, Drop: h.Drop, Put: slices.Clone(h.Put)})
	}
	return s
}

// fits tells whether a hunk makes rows of rows.
func fits(h api.Hunk, l []string) bool {
	// Both spans are those of rows that are there, so that no sum is too great.
	return within(api.Span{Lo: 0, Hi: len(l)}, h.At) &&
		within(api.Span{Lo: 0, Hi: len(l) - h.At}, h.Drop) &&
		areRows(h.Put...) &&
		len(l)-h.Drop+len(h.Put) <= api.MaxRows
}

// changed returns what a hunk makes of rows.
func changed(l []string, h api.Hunk) []string {
	return slices.Concat(l[:h.At], h.Put, l[h.At+h.Drop:])
}

// hunkOf returns the hunk from some rows to others.
func hunkOf(from, to []string) api.Hunk {
	at := common(from, to, func(l []string, n int) string { return l[n] })
	from, to = from[at:], to[at:]
	end := common(from, to, func(l []string, n int) string { return l[len(l)-1-n] })
	return api.Hunk{At: at, Drop: len(from) - end, Put: slices.Clone(to[:len(to)-end])}
}

// common returns how many things two lists have in common, from the first one on that nth tells.
func common[T comparable](a, b []T, nth func(l []T, n int) T) int {
	n := 0
	for n < min(len(a), len(b)) && nth(a, n) == nth(b, n) {
		n++
	}
	return n
}

// merged returns the rows that two hunks make of rows, each as if the other one were not there: ErrMerge unless a row is between them, ErrRows if there are too many.
func merged(l []string, a, b api.Hunk) ([]string, api.Errno) {
	if b.At < a.At {
		a, b = b, a
	}
	if a.At+a.Drop >= b.At {
		return nil, api.ErrMerge
	}
	// The later one goes first, as it moves no row of the other one.
	both := changed(changed(l, b), a)
	if len(both) > api.MaxRows {
		return nil, api.ErrRows
	}
	return both, api.OK
}
