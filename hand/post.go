package hand

import (
	"iter"
	"slices"

	"postil/api"
)

// backs returns the days on which parts are back, if the helpers write these, in this order, and no others.
func (r round) backs(l []api.Share) []int {
	var written [api.MaxHelpers]int
	days := make([]int, len(l))
	for i, s := range l {
		h := r.Helpers[s.Helper]
		begun := max(written[s.Helper], s.Sent+h.Post)
		// A part has To - From + 1 lines: with Rate - 1 more the days are rounded up.
		written[s.Helper] = begun + (s.To-s.From+h.Rate)/h.Rate
		days[i] = written[s.Helper] + h.Post
	}
	return days
}

// task is which helpers write some parts, and the day on which the last part is back.
type task struct {
	helpers []int
	last    int
}

// tasks yields all ways in which helpers may write some parts again that are sent on a day, in the order of the lists of helpers.
func (r round) tasks(parts []int, day int) iter.Seq[task] {
	return func(yield func(task) bool) {
		ways := 1
		for range parts {
			ways *= len(r.Helpers)
		}
		for way := range ways {
			helpers := digits(way, len(r.Helpers), len(parts))
			if !yield(task{helpers, r.last(parts, helpers, day)}) {
				return
			}
		}
	}
}

// digits returns so many digits of a number, written to a base, the one of the ones last.
func digits(number, base, many int) []int {
	l := make([]int, many)
	for i := range slices.Backward(l) {
		l[i] = number % base
		number /= base
	}
	return l
}

// last returns the day on which the last one of some parts is back that are sent to helpers on a day: this day, if there are no parts.
func (r round) last(parts, helpers []int, day int) int {
	l := make([]api.Share, len(parts))
	for i, part := range parts {
		s := r.Shares[part]
		l[i] = api.Share{From: s.From, To: s.To, Helper: helpers[i], Sent: day}
	}
	last := day
	for _, back := range r.backs(l) {
		last = max(last, back)
	}
	return last
}
