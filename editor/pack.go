package editor

import (
	"postil/api"
	"postil/sheaf"
)

// The files of a year, by their indices, and how many there are.
const (
	textFile = iota
	lexiconFile
	orderFile
	yearFiles
)

// packed returns the files of a year, of their rows. Those of a text, of a lexicon and of orders are too few, and too short, to be too many bytes.
func packed(rows [yearFiles][]string) []string {
	var l []string
	for _, file := range rows {
		s, _ := sheaf.Write(file)
		l = append(l, s)
	}
	return l
}

// unpacked returns the rows of the files of a year: ErrFiles unless all of them are there, and for the first one that is not whole, with its index.
func unpacked(l []string) (rows [yearFiles][]string, at int, e api.Errno) {
	if len(l) != yearFiles {
		return rows, 0, api.ErrFiles
	}
	at = first(l, func(file string) bool { return !isWhole(file) })
	if at < len(l) {
		return rows, at, api.ErrFiles
	}
	for n, file := range l {
		rows[n], _, _ = sheaf.Read(file)
	}
	return rows, 0, api.OK
}

// isWhole tells whether all bytes of a file are read.
func isWhole(file string) bool {
	_, bytes, e := sheaf.Read(file)
	return e == api.OK && bytes == len(file)
}

// newOf returns a new office of the rows of a text and a lexicon: sheaf.ToText's error, sheaf.ToLexicon's, and New's.
func newOf(rows [yearFiles][]string, e api.Edition, c api.Cut, l []api.Helper) (api.Office, api.Errno) {
	t, err := sheaf.ToText(rows[textFile])
	if err != api.OK {
		return api.Office{}, err
	}
	x, err := sheaf.ToLexicon(t, rows[lexiconFile])
	if err != api.OK {
		return api.Office{}, err
	}
	return New(t, x, e, c, l)
}
