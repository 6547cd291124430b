package sheaf

import (
	"iter"
	"strings"

	"postil/api"
)

// letters is how many letters a check is written with, checks how many checks there are.
const (
	letters = 26
	checks  = letters * letters
)

// within tells whether all numbers are in a span.
func within(s api.Span, numbers ...int) bool {
	for _, n := range numbers {
		if n < s.Lo || n > s.Hi {
			return false
		}
	}
	return true
}

// areRows tells whether texts are rows: one that is wrong is not counted.
func areRows(l ...string) bool {
	if len(l) > api.MaxRows {
		return false
	}
	right := 0
row:
	for n := range len(l) {
		if !within(api.Span{Lo: 1, Hi: api.MaxRow}, len(l[n])) {
			continue row
		}
		for i := range len(l[n]) {
			if !within(api.Span{Lo: ' ', Hi: '~'}, int(l[n][i])) {
				continue row
			}
		}
		right++
	}
	return right == len(l)
}

// checkOf returns the check of a row with an index.
func checkOf(row string, index int) string {
	n := (17*index + 5) % checks
	for i := range len(row) {
		n = (31*n + int(row[i])) % checks
	}
	return string([]byte{'a' + byte(n/letters), 'a' + byte(n%letters)})
}

// bytesOf returns the bytes of a row with an index.
func bytesOf(row string, index int) string {
	return row + " " + checkOf(row, index) + "\n"
}

// rowsOf yields the rows of the longest beginning of some bytes that is the bytes of rows, each one with how many bytes this has up to its end.
func rowsOf(s string) iter.Seq2[int, string] {
	return func(yield func(int, string) bool) {
		end := 0
		for index := range api.MaxRows {
			row, ok := firstRow(s[end:], index)
			if !ok {
				return
			}
			end += len(bytesOf(row, index))
			if !yield(end, row) {
				return
			}
		}
	}
}

// firstRow returns the row with whose bytes some bytes begin, if its index is this one, and whether there is one.
func firstRow(s string, index int) (string, bool) {
	line := s[:strings.IndexByte(s, '\n')+1]
	row := line[:max(0, len(line)-len(" aa\n"))]
	if !areRows(row) || line != bytesOf(row, index) {
		return "", false
	}
	return row, true
}
