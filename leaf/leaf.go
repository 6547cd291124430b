// Package leaf is layer 1: the base text and its copies. It tells places and words, what each copy has, the fewest readings that make one text of another one, and the places that copies leave in doubt.
package leaf

import (
	"strings"

	"postil/api"
)

// Check returns ErrText unless a text is valid.
func Check(t api.Text) api.Errno {
	_, e := begin(t)
	return e
}

// CheckCopy returns Check's error of a text, and ErrCopy unless a copy of it is valid.
func CheckCopy(t api.Text, c api.Copy) api.Errno {
	_, e := beginCopy(t, c)
	return e
}

// Words returns how many words a text has.
func Words(t api.Text) (int, api.Errno) {
	base, e := begin(t)
	if e != api.OK {
		return 0, e
	}
	n := 0
	for range base.words() {
		n++
	}
	return n, api.OK
}

// At returns the word of a place: ErrPlace unless it is one.
func At(t api.Text, p api.Place) (string, api.Errno) {
	base, e := begin(t)
	if e != api.OK {
		return "", e
	}
	if !base.hasPlace(p) {
		return "", api.ErrPlace
	}
	return base.lineOf(p)[p.Word], api.OK
}

// Number returns how many places there are before a place: ErrPlace unless it is one.
func Number(t api.Text, p api.Place) (int, api.Errno) {
	base, e := begin(t)
	if e != api.OK {
		return 0, e
	}
	n := 0
	for q := range base.words() {
		if q == p {
			return n, api.OK
		}
		n++
	}
	return 0, api.ErrPlace
}

// PlaceOf returns the place with so many places before it: ErrArg unless there is one.
func PlaceOf(t api.Text, n int) (api.Place, api.Errno) {
	base, e := begin(t)
	if e != api.OK {
		return api.Place{}, e
	}
	before := 0
	for p := range base.words() {
		if before == n {
			return p, api.OK
		}
		before++
	}
	return api.Place{}, api.ErrArg
}

// Places returns all places in which a word stands, in order: ErrArg unless it is a word.
func Places(t api.Text, word string) ([]api.Place, api.Errno) {
	base, e := begin(t)
	if e != api.OK {
		return nil, e
	}
	if !isWord(word) {
		return nil, api.ErrArg
	}
	return base.placesByWord()[word], api.OK
}

// Vocabulary returns all words of a text, each once, in order.
func Vocabulary(t api.Text) ([]string, api.Errno) {
	base, e := begin(t)
	if e != api.OK {
		return nil, e
	}
	asked := base.placesByWord()
	// The text is gone through, not the map, as a map has no order.
	var l []string
	for _, word := range base.words() {
		if _, ok := asked[word]; ok {
			l = append(l, word)
			delete(asked, word)
		}
	}
	return inOrder(l, strings.Compare), api.OK
}

// Read returns the text of a copy: ErrCopy unless it is valid.
func Read(t api.Text, c api.Copy) (api.Text, api.Errno) {
	base, e := beginCopy(t, c)
	if e != api.OK {
		return api.Text{}, e
	}
	return base.read(c), api.OK
}

// Stands returns what a copy has in a place of the base, the empty text if its word is left out: ErrCopy unless the copy is valid, ErrPlace unless it is a place.
func Stands(t api.Text, c api.Copy, p api.Place) (string, api.Errno) {
	base, e := beginCopy(t, c)
	if e != api.OK {
		return "", e
	}
	if !base.hasPlace(p) {
		return "", api.ErrPlace
	}
	for _, r := range c.Readings {
		if r.At == p && r.Kind != api.ReadPut {
			return r.Word, api.OK
		}
	}
	return base.lineOf(p)[p.Word], api.OK
}

// Find returns the copy of the text t whose text is u, with the fewest readings: ErrBad unless the texts are alike, ErrArg unless id is one, ErrMany if there are too many readings.
func Find(t, u api.Text, id int) (api.Copy, api.Errno) {
	base, e := beginAlike(t, u)
	if e != api.OK {
		return api.Copy{}, e
	}
	if !isId(id) {
		return api.Copy{}, api.ErrArg
	}
	found := api.Copy{Id: id}
	for at, p := range base.pairs(u) {
		found.Readings = append(found.Readings, p.readings(at)...)
	}
	if len(found.Readings) > api.MaxReadings {
		return api.Copy{}, api.ErrMany
	}
	return found, api.OK
}

// Apart returns how many readings make one text of another one, at least: ErrBad unless the texts are alike.
func Apart(t, u api.Text) (int, api.Errno) {
	base, e := beginAlike(t, u)
	if e != api.OK {
		return 0, e
	}
	n := 0
	for _, p := range base.pairs(u) {
		n += p.fewest[0][0]
	}
	return n, api.OK
}

// Doubt returns all places of the base in which some copy has not its word, in order: ErrMany if there are too many copies, ErrCopy unless all of them are valid.
func Doubt(t api.Text, l []api.Copy) ([]api.Place, api.Errno) {
	base, e := begin(t)
	if e != api.OK {
		return nil, e
	}
	if len(l) > api.MaxCopies {
		return nil, api.ErrMany
	}
	var places []api.Place
	for _, c := range l {
		if !base.hasCopy(c) {
			return nil, api.ErrCopy
		}
		places = append(places, doubted(c)...)
	}
	return onceInOrder(places), api.OK
}
