package editor

import (
	"slices"
	"strconv"
	"strings"

	"postil/api"
	"postil/hand"
	"postil/leaf"
	"postil/sheaf"
	"postil/slip"
	"postil/stem"
	"postil/tome"
)

// reasons is the words of the reasons for which orders are denied.
var reasons = [...]string{
	api.ReasonDay:     "day",
	api.ReasonPart:    "part",
	api.ReasonEarly:   "early",
	api.ReasonPlace:   "place",
	api.ReasonTwice:   "twice",
	api.ReasonDoubt:   "doubt",
	api.ReasonNone:    "none",
	api.ReasonFull:    "full",
	api.ReasonIdle:    "idle",
	api.ReasonOpen:    "open",
	api.ReasonPrinted: "printed",
}

// office is an office at work: it is valid, has lists of its own, and has the places of its text that have no slip yet.
type office struct {
	api.Office
	free map[api.Place]bool
}

// begin returns an office at work: ErrOffice unless it is valid.
func begin(o api.Office) (office, api.Errno) {
	if !isOffice(o) {
		return office{}, api.ErrOffice
	}
	return office{copied(o), freeOf(o)}, api.OK
}

// copied returns an office as it is, with lists of its own.
func copied(o api.Office) api.Office {
	o.Round = copiedRound(o.Round)
	o.Lexicon = api.Lexicon{Rules: slices.Clone(o.Lexicon.Rules), Decisions: slices.Clone(o.Lexicon.Decisions)}
	o.Edition.Stretches = slices.Clone(o.Edition.Stretches)
	o.Slips = slices.Clone(o.Slips)
	o.Shelf = api.Shelf{First: slices.Clone(o.Shelf.First), Changes: slices.Clone(o.Shelf.Changes)}
	for n, h := range o.Shelf.Changes {
		o.Shelf.Changes[n].Put = slices.Clone(h.Put)
	}
	o.Printed = slices.Clone(o.Printed)
	return o
}

func copiedRound(r api.Round) api.Round {
	r.Text.Chapters = slices.Clone(r.Text.Chapters)
	for n, c := range r.Text.Chapters {
		r.Text.Chapters[n].Lines = copiedLines(c.Lines)
	}
	r.Helpers = slices.Clone(r.Helpers)
	r.Shares = slices.Clone(r.Shares)
	r.Sheets = slices.Clone(r.Sheets)
	for n, s := range r.Sheets {
		r.Sheets[n].Lines = copiedLines(s.Lines)
	}
	return r
}

func copiedLines(l [][]string) [][]string {
	l = slices.Clone(l)
	for n, line := range l {
		l[n] = slices.Clone(line)
	}
	return l
}

// denied is the panic of an order that is denied, for a reason.
type denied struct{ reason uint8 }

func denyIf(isSo bool, reason uint8) {
	if isSo {
		panic(denied{reason})
	}
}

// do does a valid order, and returns its answer, and ReasonNot; or, if it is denied, the reason: nothing is done then.
func (o *office) do(x api.Order) (answer string, reason uint8) {
	defer func() {
		switch r := recover().(type) {
		case nil:
		case denied:
			reason = r.reason
		default:
			// It is a fault of the program, not of an order.
			panic(r)
		}
	}()
	return forms()[x.Kind].do(o, x), api.ReasonNot
}

// play does valid orders, one after the other, and returns what is answered to each.
func (o *office) play(orders []api.Order) []string {
	var l []string
	add := func(pieces ...string) { l = append(l, strings.Join(pieces, "")) }
	for _, x := range orders {
		answer, reason := o.do(x)
		if reason == api.ReasonNot {
			add(answer)
		} else {
			add("denied: ", reasons[reason])
		}
	}
	return l
}

func (o *office) setDay(x api.Order) string {
	denyIf(!within(api.Span{Lo: o.Day + 1, Hi: api.MaxDay}, x.N[0]), api.ReasonDay)
	o.Day = x.N[0]
	return joined("day", strconv.Itoa(o.Day))
}

func (o *office) send(x api.Order) string {
	s := api.Share{From: x.N[0], To: x.N[1], Helper: x.N[2], Sent: o.Day}
	at := first(o.Round.Shares, func(other api.Share) bool { return other.From > s.From })
	after := o.Office
	after.Round.Shares = slices.Concat(o.Round.Shares[:at], []api.Share{s}, o.Round.Shares[at:])
	after.Round.Sheets = slices.Concat(o.Round.Sheets[:at], []api.Sheet{{}}, o.Round.Sheets[at:])
	// A part more changes nothing else of what makes an office valid.
	denyIf(!isRound(after), api.ReasonPart)
	o.Office = after
	return joined("part", strconv.Itoa(at), "back", strconv.Itoa(backOf(o.Office, at)))
}

func (o *office) takeIn(x api.Order) string {
	part := x.N[0]
	denyIf(part >= len(o.Round.Shares), api.ReasonPart)
	denyIf(o.Round.Sheets[part].Back, api.ReasonTwice)
	denyIf(backOf(o.Office, part) > o.Day, api.ReasonEarly)
	o.Round.Sheets[part] = api.Sheet{Back: true, Lines: copiedLines(x.Lines)}
	faults, e := hand.Explain(o.Round, part)
	if e != api.OK {
		return joined("faults", "unknown")
	}
	return joined("faults", strconv.Itoa(cost(faults)))
}

// cost returns what faults cost.
func cost(l []api.Fault) int {
	all := 0
	for _, f := range l {
		if f.Kind == api.FaultRead {
			all += f.Words
		} else {
			all++
		}
	}
	return all
}

func placeOf(x api.Order) api.Place {
	return api.Place{Chapter: x.N[0], Line: x.N[1], Word: x.N[2]}
}

func (o *office) write(x api.Order) string {
	p := placeOf(x)
	s, e := slip.Make(o.Round.Text, o.Cut, p)
	denyIf(e != api.OK, api.ReasonPlace)
	denyIf(!o.free[p], api.ReasonTwice)
	doubt, _ := hand.Doubt(o.Round, o.Cut)
	denyIf(first(doubt, func(other api.Slip) bool { return other.At == p }) < len(doubt), api.ReasonDoubt)
	denyIf(len(o.Slips) == api.MaxDeck, api.ReasonFull)
	o.Slips = append(o.Slips, s)
	delete(o.free, p)
	return joined("slip", strconv.Itoa(len(o.Slips)))
}

func (o *office) decideForm(x api.Order) string {
	return o.decide(api.Decision{Kind: api.DecideForm, Form: x.Word, To: headOf(x)})
}

func (o *office) decidePlace(x api.Order) string {
	_, e := leaf.At(o.Round.Text, placeOf(x))
	denyIf(e != api.OK, api.ReasonPlace)
	return o.decide(api.Decision{Kind: api.DecidePlace, At: placeOf(x), To: headOf(x)})
}

func (o *office) decideVoid(x api.Order) string {
	standing, _ := stem.Standing(o.Round.Text, o.Lexicon)
	denyIf(!slices.Contains(standing, x.N[0]), api.ReasonNone)
	return o.decide(api.Decision{Kind: api.DecideVoid, Of: x.N[0]})
}

// decide adds a decision, with the next Number.
func (o *office) decide(d api.Decision) string {
	for _, other := range o.Lexicon.Decisions {
		d.Number = max(d.Number, other.Number)
	}
	d.Number++
	denyIf(len(o.Lexicon.Decisions) == api.MaxDecisions || d.Number > api.MaxNumbered, api.ReasonFull)
	changed, _ := tome.Changed(recordsOf(o.Office), d)
	denyIf(slices.ContainsFunc(changed, o.isPrinted), api.ReasonPrinted)
	places, _ := stem.Changes(o.Round.Text, o.Lexicon, d)
	denyIf(len(places) == 0, api.ReasonIdle)
	o.Lexicon, _ = stem.Add(o.Round.Text, o.Lexicon, d)
	return joined("decision", strconv.Itoa(d.Number), "changes", strconv.Itoa(len(places)))
}

func (o *office) isPrinted(h api.Head) bool { return slices.Contains(o.Printed, h) }

// rows returns the rows of the lexicon.
func (o *office) rows() []string {
	l, _ := sheaf.OfLexicon(o.Round.Text, o.Lexicon)
	return l
}

func (o *office) save(x api.Order) string {
	n := generations(o.Office)
	denyIf(slices.Equal(generation(o.Office, n-1), o.rows()), api.ReasonIdle)
	denyIf(n == api.MaxGenerations, api.ReasonFull)
	o.Shelf, _ = sheaf.Save(o.Shelf, o.rows())
	return joined("generation", strconv.Itoa(n))
}

func (o *office) undo(x api.Order) string {
	n := x.N[0]
	denyIf(n >= generations(o.Office), api.ReasonNone)
	rows := generation(o.Office, n)
	denyIf(slices.Equal(rows, o.rows()), api.ReasonIdle)
	after, _ := sheaf.ToLexicon(o.Round.Text, rows)
	for _, h := range o.Printed {
		// A place that goes, or comes, is under the head by just one of both lexicons.
		denyIf(!slices.Equal(o.under(o.Lexicon, h), o.under(after, h)), api.ReasonPrinted)
	}
	o.Lexicon = after
	return joined("generation", strconv.Itoa(n))
}

// under returns all places that have a head by a lexicon, in order.
func (o *office) under(x api.Lexicon, h api.Head) []api.Place {
	l, _ := stem.Under(o.Round.Text, x, h)
	return l
}

func (o *office) print(x api.Order) string {
	h := headOf(x)
	under := o.under(o.Lexicon, h)
	denyIf(len(under) == 0, api.ReasonNone)
	denyIf(o.isPrinted(h), api.ReasonTwice)
	denyIf(slices.ContainsFunc(under, o.isFree), api.ReasonOpen)
	denyIf(len(o.Printed) == api.MaxPrinted, api.ReasonFull)
	at := first(o.Printed, func(other api.Head) bool { return compareHeads(other, h) > 0 })
	o.Printed = slices.Insert(o.Printed, at, h)
	return joined("lines", strconv.Itoa(len(linesOf(o.Office, h))))
}

// isFree tells whether a place has no slip yet.
func (o *office) isFree(p api.Place) bool { return o.free[p] }

// linesOf returns the lines of a head that some place of the text of a valid office has.
func linesOf(o api.Office, h api.Head) []string {
	l, _ := tome.Print(recordsOf(o), h)
	return l
}

// volumeOf returns the volume of a valid office.
func volumeOf(o api.Office) string {
	var b strings.Builder
	for _, h := range o.Printed {
		for _, line := range linesOf(o, h) {
			b.WriteString(line)
			b.WriteString("\n")
		}
	}
	return b.String()
}
