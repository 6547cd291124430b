package tome

import (
	"slices"
	"strconv"
	"strings"

	"postil/api"
)

// lines returns the lines of an entry of the volume.
func (r records) lines(entry api.Entry) []string {
	var l []string
	add := func(pieces ...string) { l = append(l, strings.Join(pieces, "")) }
	add(title(entry.Head))
	for _, form := range entry.Forms {
		add(form.Word, " ", strconv.Itoa(len(form.Rows)))
		for _, row := range form.Rows {
			add(r.printed(row)...)
		}
	}
	return l
}

// title returns the line of a head alone.
func title(h api.Head) string {
	if h.Mark == api.MarkNone {
		return h.Stem
	}
	return h.Stem + "/" + strconv.Itoa(int(h.Mark))
}

// printed returns the pieces that are printed of a row of the volume.
func (r records) printed(row api.Row) []string {
	s := r.slips[slices.IndexFunc(r.slips, func(s api.Slip) bool { return s.At == row.At })]
	var l []string
	for _, p := range pieces() {
		l = append(l, p.of(row, s))
	}
	return l
}

// piece is something that is printed of a row, by the slip of its place.
type piece struct {
	of func(row api.Row, s api.Slip) string
}

// pieces is the array of all that is printed of a row, one behind the other.
func pieces() [6]piece {
	return [...]piece{
		{of: func(row api.Row, s api.Slip) string { return reference(row.Ref) }},
		{of: func(row api.Row, s api.Slip) string {
			if row.Sure == api.KnownOpen {
				return "?"
			}
			return ""
		}},
		{of: func(row api.Row, s api.Slip) string { return ":" }},
		{of: func(row api.Row, s api.Slip) string { return spaced(s.Before) }},
		{of: func(row api.Row, s api.Slip) string { return spaced("[" + s.Word + "]") }},
		{of: func(row api.Row, s api.Slip) string { return spaced(s.After) }},
	}
}

func reference(r api.Ref) string {
	if r == (api.Ref{}) {
		return "-"
	}
	return dotted(r.Chapter, r.Line, r.Word)
}

// spaced returns a text with a space before it, unless it is empty.
func spaced(s string) string {
	if s == "" {
		return ""
	}
	return " " + s
}

// dotted returns numbers, one behind the other, with a dot between them.
func dotted(numbers ...int) string {
	var l []string
	for _, n := range numbers {
		l = append(l, strconv.Itoa(n))
	}
	return strings.Join(l, ".")
}
