package tome

import (
	"cmp"
	"iter"
	"slices"
	"strings"

	"postil/api"
	"postil/chart"
	"postil/slip"
	"postil/stem"
)

// records is records at work: they are valid, and have the places that their copies leave in doubt, and the slips of all places that are asked for, in order.
type records struct {
	api.Records
	open  []api.Place
	slips []api.Slip
}

// begin returns records at work, of which all places are asked for: doubted's errors.
func begin(r api.Records) (records, api.Errno) {
	open, e := doubted(r)
	if e != api.OK {
		return records{}, e
	}
	slips, e := slip.All(r.Text, r.Cut)
	if e != api.OK {
		return records{}, e
	}
	return records{r, open, slips}, api.OK
}

// beginUnder returns records at work, of which only the places of a head are asked for: begin's errors, and stem.Under's of the head.
func beginUnder(r api.Records, h api.Head) (records, api.Errno) {
	work, e := begin(r)
	if e != api.OK {
		return records{}, e
	}
	under, e := stem.Under(r.Text, r.Lexicon, h)
	if e != api.OK {
		return records{}, e
	}
	work.slips = picked(work.slips, func(s api.Slip) bool { return slices.Contains(under, s.At) })
	return work, api.OK
}

// beginVolume returns records at work: begin's errors, and ErrVolume unless a volume is valid.
func beginVolume(r api.Records, v api.Volume) (records, api.Errno) {
	work, e := begin(r)
	if e != api.OK {
		return records{}, e
	}
	if !isVolume(v) {
		return records{}, api.ErrVolume
	}
	return work, api.OK
}

// spot is a row of a volume, and where it stands there: under which head, and with which word.
type spot struct {
	head api.Head
	word string
	row  api.Row
}

// spots returns the spots of all places that are asked for, in the order of these.
func (r records) spots() []spot {
	var l []spot
	for n := range len(r.slips) {
		l = append(l, r.spot(r.slips[n].At, r.slips[n].Word))
	}
	return l
}

// spot returns the spot of a place, at which a word stands.
func (r records) spot(p api.Place, word string) spot {
	// The only error there may be is that a place has no reference, which is zero then.
	head, _ := stem.HeadOf(r.Text, r.Lexicon, p)
	ref, _ := chart.Refer(r.Text, r.Edition, p)
	return spot{head, word, api.Row{At: p, Ref: ref, Sure: r.sure(p)}}
}

func (r records) sure(p api.Place) uint8 {
	if slices.Contains(r.open, p) {
		return api.KnownOpen
	}
	return api.KnownYes
}

// volume returns what the volume of the records has of the places that are asked for.
func (r records) volume() api.Volume {
	var v api.Volume
	// Of the same head and word the spots stay in the order of their places.
	for _, s := range slices.SortedStableFunc(slices.Values(r.spots()), compareSpots) {
		if n := len(v.Entries); n == 0 || v.Entries[n-1].Head != s.head {
			v.Entries = append(v.Entries, api.Entry{Head: s.head})
		}
		entry := &v.Entries[len(v.Entries)-1]
		if n := len(entry.Forms); n == 0 || entry.Forms[n-1].Word != s.word {
			entry.Forms = append(entry.Forms, api.Form{Word: s.word})
		}
		form := &entry.Forms[len(entry.Forms)-1]
		form.Rows = append(form.Rows, s.row)
	}
	return v
}

func compareSpots(a, b spot) int {
	return cmp.Or(compareHeads(a.head, b.head), strings.Compare(a.word, b.word))
}

func compareHeads(a, b api.Head) int {
	return cmp.Or(strings.Compare(a.Stem, b.Stem), cmp.Compare(a.Mark, b.Mark))
}

// headsBy returns the heads that some places have by each of several lexicons, each once, in order.
func headsBy(t api.Text, places []api.Place, lexicons ...api.Lexicon) []api.Head {
	var l []api.Head
	for _, p := range places {
		for _, x := range lexicons {
			h, _ := stem.HeadOf(t, x, p)
			l = append(l, h)
		}
	}
	slices.SortFunc(l, compareHeads)
	return slices.Compact(l)
}

// rowsOf yields the rows of a volume, as spots, with their indices: those of the entry, the form and the row.
func rowsOf(v api.Volume) iter.Seq2[[3]int, spot] {
	return func(yield func([3]int, spot) bool) {
		for i, entry := range v.Entries {
			for j, form := range entry.Forms {
				for k, row := range form.Rows {
					if !yield([3]int{i, j, k}, spot{entry.Head, form.Word, row}) {
						return
					}
				}
			}
		}
	}
}

// lacks returns all places that are in no row of a volume, in order.
func (r records) lacks(v api.Volume) []api.Place {
	missing := map[api.Place]bool{}
	for _, s := range r.slips {
		missing[s.At] = true
	}
	for _, s := range rowsOf(v) {
		delete(missing, s.row.At)
	}
	return r.places(missing)
}

// twice returns all places that are in more than one row of a volume, in order.
func (r records) twice(v api.Volume) []api.Place {
	last := map[api.Place][3]int{}
	for at, s := range rowsOf(v) {
		last[s.row.At] = at
	}
	again := map[api.Place]bool{}
	for at, s := range rowsOf(v) {
		if at != last[s.row.At] {
			again[s.row.At] = true
		}
	}
	return r.places(again)
}

// places returns all places of the text that are in a set, in order.
func (r records) places(set map[api.Place]bool) []api.Place {
	var l []api.Place
	for _, s := range picked(r.slips, func(s api.Slip) bool { return set[s.At] }) {
		l = append(l, s.At)
	}
	return l
}

// wrong returns the indices of all rows of a volume that are not right, in its order.
func (r records) wrong(v api.Volume) [][3]int {
	right := r.spots()
	var l [][3]int
row:
	for at, s := range rowsOf(v) {
		for _, x := range right {
			if s == x {
				continue row
			}
		}
		l = append(l, at)
	}
	return l
}

// picked returns a new list of those things of a list of which something is so.
func picked[T any](l []T, isSo func(x T) bool) []T {
	var some []T
	for _, x := range l {
		if isSo(x) {
			some = append(some, x)
		}
	}
	return some
}
