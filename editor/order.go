package editor

import (
	"iter"
	"strconv"
	"strings"

	"postil/api"
)

// maxWritten is the greatest number that orders have, and slash what is between two lines of words.
const (
	maxWritten = 9999
	slash      = "/"
)

// form is what orders of a kind are like: how many numbers they have, whether they have a Word, a head, and Lines; and what they do to an office, with their answer. What they do is a panic, denied, if they are denied.
type form struct {
	numbers           int
	word, head, lines bool
	do                func(o *office, x api.Order) string
}

// forms is the map of the kinds of orders.
func forms() map[uint8]form {
	return map[uint8]form{
		api.OrderDay:   {numbers: 1, do: (*office).setDay},
		api.OrderSend:  {numbers: 3, do: (*office).send},
		api.OrderBack:  {numbers: 1, lines: true, do: (*office).takeIn},
		api.OrderSlip:  {numbers: 3, do: (*office).write},
		api.OrderForm:  {word: true, head: true, do: (*office).decideForm},
		api.OrderPlace: {numbers: 3, head: true, do: (*office).decidePlace},
		api.OrderVoid:  {numbers: 1, do: (*office).decideVoid},
		api.OrderSave:  {do: (*office).save},
		api.OrderUndo:  {numbers: 1, do: (*office).undo},
		api.OrderPrint: {head: true, do: (*office).print},
	}
}

// names is the words with which the lines of orders begin, by their kinds.
func names() [api.OrderPrint + 1]string {
	return [...]string{
		api.OrderDay:   "day",
		api.OrderSend:  "send",
		api.OrderBack:  "back",
		api.OrderSlip:  "slip",
		api.OrderForm:  "form",
		api.OrderPlace: "place",
		api.OrderVoid:  "void",
		api.OrderSave:  "save",
		api.OrderUndo:  "undo",
		api.OrderPrint: "print",
	}
}

func isOrder(x api.Order) bool {
	f, isKind := forms()[x.Kind]
	return isKind &&
		within(api.Span{Lo: 0, Hi: maxWritten}, x.N[:f.numbers]...) &&
		within(api.Span{}, x.N[f.numbers:]...) &&
		isRight(f.word, areWords(x.Word), x.Word == "") &&
		isRight(f.head, isHead(headOf(x)), headOf(x) == api.Head{}) &&
		isRight(f.lines, areLines(x.Lines), len(x.Lines) == 0)
}

// isRight tells whether a field is right that orders of a kind have, or have not: it is allowed, or it is zero.
func isRight(has, isAllowed, isZero bool) bool {
	if has {
		return isAllowed
	}
	return isZero
}

func headOf(x api.Order) api.Head { return api.Head{Stem: x.Stem, Mark: x.Mark} }

func isHead(h api.Head) bool {
	return areWords(h.Stem) && within(api.Span{Lo: api.MarkNone, Hi: api.MarkOther}, int(h.Mark))
}

func areLines(l [][]string) bool {
	return len(l) <= api.MaxSheet && first(l, func(line []string) bool { return !areWords(line...) }) == len(l)
}

// joined returns words with a space between them.
func joined(words ...string) string { return strings.Join(words, " ") }

// lineOf returns the line of a valid order.
func lineOf(x api.Order) string {
	f := forms()[x.Kind]
	l := []string{names()[x.Kind]}
	for _, n := range x.N[:f.numbers] {
		l = append(l, strconv.Itoa(n))
	}
	if f.word {
		l = append(l, x.Word)
	}
	if f.head {
		l = append(l, x.Stem, strconv.Itoa(int(x.Mark)))
	}
	for n, line := range x.Lines {
		if n > 0 {
			l = append(l, slash)
		}
		l = append(l, line...)
	}
	return joined(l...)
}

// words is the words of a line that are still to be read; where there are none, they are empty.
type words struct{ left []string }

func (w *words) next() string {
	if len(w.left) == 0 {
		return ""
	}
	s := w.left[0]
	w.left = w.left[1:]
	return s
}

// number returns the next word as a number. One that is none, or is too great, is another one when it is written again.
func (w *words) number() int {
	n, _ := strconv.Atoi(w.next())
	return n
}

// lines returns all words that are left as lines.
func (w *words) lines() [][]string {
	if len(w.left) == 0 {
		return nil
	}
	var l [][]string
	for line := range strings.SplitSeq(joined(w.left...), joined("", slash, "")) {
		l = append(l, strings.Split(line, " "))
	}
	return l
}

// orderOf returns the order of a line, and whether the line is one of a valid order.
func orderOf(line string) (api.Order, bool) {
	w := words{strings.Split(line, " ")}
	name, all := w.next(), names()
	x := api.Order{Kind: uint8(first(all[:], func(s string) bool { return s == name }))}
	f := forms()[x.Kind]
	for n := range f.numbers {
		x.N[n] = w.number()
	}
	if f.word {
		x.Word = w.next()
	}
	if f.head {
		x.Stem = w.next()
		x.Mark = uint8(w.number())
	}
	if f.lines {
		x.Lines = w.lines()
	}
	// What was read wrong, and what was not read, is not written so.
	if !isOrder(x) || lineOf(x) != line {
		return api.Order{}, false
	}
	return x, true
}

// year yields the orders of lines, each with whether its line is one of a valid order.
func year(l []string) iter.Seq2[api.Order, bool] {
	return func(yield func(api.Order, bool) bool) {
		for _, line := range l {
			if !yield(orderOf(line)) {
				return
			}
		}
	}
}

// ordersOf returns the orders of lines: ErrMany if there are too many, ErrOrder if a line is none of a valid order, with the index of the first such one.
func ordersOf(l []string) (orders []api.Order, at int, e api.Errno) {
	if len(l) > api.MaxOrders {
		return nil, 0, api.ErrMany
	}
lines:
	for x, isOne := range year(l) {
		if !isOne {
			break lines
		}
		orders = append(orders, x)
	}
	if len(orders) < len(l) {
		return nil, len(orders), api.ErrOrder
	}
	return orders, 0, api.OK
}
