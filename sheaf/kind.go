package sheaf

import (
	"strconv"
	"strings"

	"postil/api"
	"postil/slip"
)

// maxWritten is the greatest number that rows have, maxMark the greatest one that stands for a mark.
const (
	maxWritten = 9999
	maxMark    = 255
)

// joined returns words with a space between them, but for those that are empty.
func joined(words ...string) string {
	var l []string
	for _, s := range words {
		if s != "" {
			l = append(l, s)
		}
	}
	return strings.Join(l, " ")
}

func written(numbers ...int) string {
	var l []string
	for _, n := range numbers {
		l = append(l, strconv.Itoa(n))
	}
	return joined(l...)
}

func writtenPlace(p api.Place) string { return written(p.Chapter, p.Line, p.Word) }

func writtenHead(h api.Head) string { return joined(h.Stem, written(int(h.Mark))) }

// textForms is the forms of the rows of a text.
func textForms() [2]form[api.Text] {
	return [...]form[api.Text]{
		{name: "chapter", opens: true, read: func(t *api.Text, w *words) {
			t.Chapters = append(t.Chapters, api.Chapter{Id: w.number()})
		}},
		{name: "line", read: func(t *api.Text, w *words) {
			c := &t.Chapters[len(t.Chapters)-1]
			c.Lines = append(c.Lines, w.all())
		}},
	}
}

// rowsOfText returns the rows of a valid text.
func rowsOfText(t api.Text) []string {
	var l []string
	for _, c := range t.Chapters {
		l = append(l, joined("chapter", written(c.Id)))
		for _, line := range c.Lines {
			l = append(l, joined("line", joined(line...)))
		}
	}
	return l
}

// copyForms is the forms of the rows of a copy.
func copyForms() [4]form[api.Copy] {
	return [...]form[api.Copy]{
		{name: "copy", opens: true, ends: []string{"copy"}, read: func(c *api.Copy, w *words) {
			c.Id = w.number()
		}},
		{name: "omit", read: func(c *api.Copy, w *words) {
			c.Readings = append(c.Readings, api.Reading{At: w.place(), Kind: api.ReadOmit})
		}},
		{name: "put", read: func(c *api.Copy, w *words) {
			c.Readings = append(c.Readings, api.Reading{At: w.place(), Kind: api.ReadPut, Word: w.word()})
		}},
		{name: "other", read: func(c *api.Copy, w *words) {
			c.Readings = append(c.Readings, api.Reading{At: w.place(), Kind: api.ReadOther, Word: w.word()})
		}},
	}
}

// rowsOfCopy returns the rows of a valid copy.
func rowsOfCopy(c api.Copy) []string {
	names := [...]string{api.ReadOmit: "omit", api.ReadPut: "put", api.ReadOther: "other"}
	l := []string{joined("copy", written(c.Id))}
	for _, r := range c.Readings {
		l = append(l, joined(names[r.Kind], writtenPlace(r.At), r.Word))
	}
	return l
}

// slipForms is the forms of the rows of slips.
func slipForms() [3]form[[]api.Slip] {
	return [...]form[[]api.Slip]{
		{name: "slip", opens: true, read: func(l *[]api.Slip, w *words) {
			*l = append(*l, api.Slip{At: w.place(), Word: w.word()})
		}},
		{name: "before", ends: []string{"before"}, read: func(l *[]api.Slip, w *words) {
			(*l)[len(*l)-1].Before = joined(w.all()...)
		}},
		{name: "after", ends: []string{"before", "after"}, read: func(l *[]api.Slip, w *words) {
			(*l)[len(*l)-1].After = joined(w.all()...)
		}},
	}
}

// rowsOfSlips returns the rows of valid slips.
func rowsOfSlips(slips []api.Slip) []string {
	var l []string
	for _, s := range slips {
		l = append(l, joined("slip", writtenPlace(s.At), s.Word))
		if s.Before != "" {
			l = append(l, joined("before", s.Before))
		}
		if s.After != "" {
			l = append(l, joined("after", s.After))
		}
	}
	return l
}

// checkSlips returns ErrSlip unless all slips are valid.
func checkSlips(l []api.Slip) api.Errno {
	for _, s := range l {
		// Order has no other error than this one.
		if _, e := slip.Order(s, s); e != api.OK {
			return e
		}
	}
	return api.OK
}

// lexiconForms is the forms of the rows of a lexicon.
func lexiconForms() [5]form[api.Lexicon] {
	return [...]form[api.Lexicon]{
		{name: "cut", opens: true, read: func(x *api.Lexicon, w *words) {
			r := api.Rule{Cut: w.word()}
			if len(w.left) > 1 {
				r.Put = w.word()
			}
			r.Least = w.number()
			x.Rules = append(x.Rules, r)
		}},
		{name: "form", opens: true, ends: []string{"cut"}, read: func(x *api.Lexicon, w *words) {
			x.Decisions = append(x.Decisions, api.Decision{Kind: api.DecideForm, Number: w.number(), Form: w.word(), To: w.head()})
		}},
		{name: "from", opens: true, ends: []string{"cut"}, read: func(x *api.Lexicon, w *words) {
			x.Decisions = append(x.Decisions, api.Decision{Kind: api.DecideFrom, Number: w.number(), At: w.place(), Form: w.word(), To: w.head()})
		}},
		{name: "place", opens: true, ends: []string{"cut"}, read: func(x *api.Lexicon, w *words) {
			x.Decisions = append(x.Decisions, api.Decision{Kind: api.DecidePlace, Number: w.number(), At: w.place(), To: w.head()})
		}},
		{name: "void", opens: true, ends: []string{"cut"}, read: func(x *api.Lexicon, w *words) {
			x.Decisions = append(x.Decisions, api.Decision{Kind: api.DecideVoid, Number: w.number(), Of: w.number()})
		}},
	}
}

// rowsOfLexicon returns the rows of a valid lexicon.
func rowsOfLexicon(x api.Lexicon) []string {
	var l []string
	for _, r := range x.Rules {
		l = append(l, joined("cut", r.Cut, r.Put, written(r.Least)))
	}
	for _, d := range x.Decisions {
		l = append(l, rowOfDecision(d))
	}
	return l
}

func rowOfDecision(d api.Decision) string {
	number, at, to := written(d.Number), writtenPlace(d.At), writtenHead(d.To)
	switch d.Kind {
	case api.DecideForm:
		return joined("form", number, d.Form, to)
	case api.DecideFrom:
		return joined("from", number, at, d.Form, to)
	case api.DecidePlace:
		return joined("place", number, at, to)
	}
	return joined("void", number, written(d.Of))
}
