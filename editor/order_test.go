package editor_test

import (
	"fmt"
	"reflect"
	"slices"
	"strings"
	"testing"

	"postil/api"
	"postil/editor"
)

// wantLine checks that an order has a line, and the line this order.
func wantLine(t *testing.T, x api.Order, want string) {
	t.Helper()
	line, e := editor.Line(x)
	wantOne(t, x, line, e, want)
	y, e := editor.Parse(want)
	if e != api.OK || !same(reflect.ValueOf(x), reflect.ValueOf(y)) {
		t.Errorf("%q: %+v, %v, not %+v", want, y, e, x)
	}
}

// longest is lines of words as many and as long as there may be.
func longest() [][]string {
	return slices.Repeat([][]string{slices.Repeat([]string{"abcdefghijkl"}, 10)}, 30)
}

// ordinary is an order of each kind, with its line, and some more at the ends of what is allowed.
func ordinary() map[string]api.Order {
	all := slices.Repeat([]string{strings.Join(longest()[0], " ")}, 30)
	return map[string]api.Order{
		"day 6":                                 dayOrder(6),
		"day 0":                                 dayOrder(0),
		"day 9999":                              dayOrder(9999),
		"send 0 1 2":                            sendOrder(0, 1, 2),
		"send 9999 10 9999":                     sendOrder(9999, 10, 9999),
		"back 0":                                backOrder(0, ""),
		"back 7 sea":                            backOrder(7, "sea"),
		"back 7 the sea":                        backOrder(7, "the sea"),
		"back 0 the sea is old / old / the":     backOrder(0, "the sea is old/old/the"),
		"back 9999 " + strings.Join(all, " / "): {Kind: 3, N: [3]int{9999}, Lines: longest()},
		"slip 0 10 200":                         slipOrder(place(0, 10, 200)),
		"slip 9999 9999 9999":                   slipOrder(place(9999, 9999, 9999)),
		"form old age 3":                        formOrder("old", head("age", 3)),
		"form a abcdefghijkl 0":                 formOrder("a", head("abcdefghijkl", 0)),
		"form form form 2":                      formOrder("form", head("form", 2)),
		"place 0 1 2 sea 1":                     placeOrder(place(0, 1, 2), head("sea", 1)),
		"place 9999 0 9999 z 3":                 placeOrder(place(9999, 0, 9999), head("z", 3)),
		"void 12":                               voidOrder(12),
		"void 0":                                voidOrder(0),
		"void 9999":                             voidOrder(9999),
		"save":                                  saveOrder(),
		"undo 0":                                undoOrder(0),
		"undo 9999":                             undoOrder(9999),
		"print sea 1":                           printOrder(head("sea", 1)),
		"print abcdefghijkl 0":                  printOrder(head("abcdefghijkl", 0)),
		"print print 3":                         printOrder(head("print", 3)),
	}
}

// P12.2: the lines of orders of each kind, and the orders of these lines.
func TestLines(t *testing.T) {
	for line, x := range ordinary() {
		wantLine(t, x, line)
		if !isLine(line) || lineOf(x) != line {
			t.Error(line)
		}
	}
}

// P12.2: an order is not valid if it has a field that its kind has not.
func TestOrdersWithOtherFields(t *testing.T) {
	numbers := map[uint8]int{1: 1, 2: 3, 3: 1, 4: 3, 6: 3, 7: 1, 9: 1}
	for line, x := range ordinary() {
		var others []api.Order
		add := func(change func(y *api.Order)) {
			y := x
			change(&y)
			others = append(others, y)
		}
		for n := range 3 {
			for _, number := range append(far, 1, 9999, 10001) {
				if number >= 0 && number <= 9999 && n < numbers[x.Kind] {
					continue
				}
				add(func(y *api.Order) { y.N[n] = number })
			}
		}
		if x.Kind != 5 {
			add(func(y *api.Order) { y.Word = "sea" })
			add(func(y *api.Order) { y.Word = " " })
		}
		if x.Kind != 5 && x.Kind != 6 && x.Kind != 10 {
			add(func(y *api.Order) { y.Stem = "sea" })
			add(func(y *api.Order) { y.Mark = 1 })
		}
		if x.Kind != 3 {
			add(func(y *api.Order) { y.Lines = linesOf("sea") })
			add(func(y *api.Order) { y.Lines = [][]string{nil} })
		}
		for _, y := range others {
			wantNoOrder(t, line, y)
		}
	}
}

// wantNoOrder checks that an order is not valid, in all calls that have one.
func wantNoOrder(t *testing.T, what string, x api.Order) {
	t.Helper()
	line, e := editor.Line(x)
	if line != "" || e != api.ErrOrder {
		t.Errorf("%s: %+v: %q, %v", what, x, line, e)
	}
	reason, e := editor.Reason(noted, x)
	if reason != 0 || e != api.ErrOrder {
		t.Errorf("%s: %+v: %v, %v", what, x, reason, e)
	}
	o, answer, e := editor.Do(noted, x)
	if !isZero(o) || answer != "" || e != api.ErrOrder {
		t.Errorf("%s: %+v: %q, %v", what, x, answer, e)
	}
}

// noted is an office that is asked about orders that are not valid.
var noted = example()

// P12.2: an order is not valid if a field that its kind has is not allowed.
func TestOrdersWithWrongFields(t *testing.T) {
	for _, s := range noWords {
		wantNoOrder(t, s, formOrder(s, head("sea", 1)))
		for _, mark := range []uint8{0, 1} {
			wantNoOrder(t, s, formOrder("sea", head(s, mark)))
			wantNoOrder(t, s, placeOrder(place(0, 0, 0), head(s, mark)))
			wantNoOrder(t, s, printOrder(head(s, mark)))
		}
		for _, l := range [][][]string{{{s}}, {{"sea"}, {s}}, {{"sea", s}}, {{s, "sea"}, {"sea"}}} {
			wantNoOrder(t, s, api.Order{Kind: 3, Lines: l})
		}
	}
	for mark := 4; mark < 256; mark++ {
		h := head("sea", uint8(mark))
		wantNoOrder(t, "mark", formOrder("sea", h))
		wantNoOrder(t, "mark", placeOrder(place(0, 0, 0), h))
		wantNoOrder(t, "mark", printOrder(h))
	}
	sea := linesOf("sea")
	for _, l := range [][][]string{{nil}, {{}}, {{"sea"}, {}}, slices.Repeat(sea, 31), slices.Repeat(sea, 1000), {slices.Repeat(sea[0], 11)}, {sea[0], slices.Repeat(sea[0], 1000)}} {
		wantNoOrder(t, "lines", api.Order{Kind: 3, Lines: l})
	}
}

// P12.2: kinds that the chapter does not list are none.
func TestKindsOfOrders(t *testing.T) {
	for kind := range 256 {
		if kind < 1 || kind > 10 {
			for _, x := range ordinary() {
				x.Kind = uint8(kind)
				wantNoOrder(t, "kind", x)
			}
		}
	}
}

// wantNoLine checks that a line is none of a valid order.
func wantNoLine(t *testing.T, line string) {
	t.Helper()
	x, e := editor.Parse(line)
	if e != api.ErrOrder || !isZero(x) {
		t.Errorf("%q: %+v, %v", line, x, e)
	}
}

// P12.2: a line has just one space between two things, numbers without a 0 at the beginning, and nothing else.
func TestLinesThatAreNone(t *testing.T) {
	for _, line := range []string{
		"", " ", "day", "day ", "days 1", "Day 1", "1", "day 01", "day 00", "day +1", "day -1", "day -0", "day 1.", "day 0x1", "day 1e1", "day 1_0", "day 10000", "day 65536", "day 18446744073709551617", "day " + strings.Repeat("9", 1000),
		"day 1 ", " day 1", "day  1", "day 1 1", "day 1 sea", "day sea", "day\t1", "day 1\n", "day 1\x00", "\xff",
		"send 0 1", "send 0 1 0 0", "send 0 1 ", "send 0  1", "send 0 1 sea",
		"back", "back sea", "back 0 ", "back 0 /", "back 0 / sea", "back 0 sea /", "back 0 sea / ", "back 0 sea / / sea", "back 0 sea/sea", "back 0 sea  / sea", "back 0 sea /  sea", "back 0 sea  sea", "back 0 sea 1", "back 0 Sea", "back 0 back 1", "back 0 sea\n", "back 0 1", "back 0 // sea",
		"slip 0 0", "slip 0 0 0 0", "slip 0 0 0 sea", "slip",
		"form", "form sea", "form sea sea", "form sea sea 4", "form sea sea 01", "form sea sea -1", "form sea sea 256", "form sea sea 257", "form sea sea 1 ", "form sea  1", "form sea sea sea 1", "form 1 sea 1", "form sea 1", "form abcdefghijklm sea 1", "form sea abcdefghijklm 1", "form sea sea 1 1",
		"place 0 0 0 sea", "place 0 0 sea 1", "place 0 0 0 0 sea 1", "place 0 0 0 sea 4", "place 0 0 0 sea sea 1",
		"void", "void sea", "void 1 1", "save 0", "save ", " save", "save sea", "saves", "undo", "undo 0 0", "print", "print sea", "print sea 4", "print sea sea 1", "print 1", "print sea 1 1", "print  1",
		"back 0 " + strings.Repeat("sea ", 10) + "sea", "back 0 " + strings.Repeat("sea / ", 30) + "sea", "back 0 " + strings.Repeat("a ", 100000) + "a", "back 0 abcdefghijklm",
	} {
		if isLine(line) {
			t.Error(line)
		}
		wantNoLine(t, line)
	}
	for _, s := range noWords {
		for _, line := range []string{"form %s sea 1", "form sea %s 1", "print %s 1", "back 0 sea %s"} {
			if line = fmt.Sprintf(line, s); !isLine(line) {
				wantNoLine(t, line)
			}
		}
	}
}

// P12.2: of all lines that are one letter apart from that of an order just those have an order that are lines of one, and it has this line.
func TestLinesOneLetterApart(t *testing.T) {
	right, wrong := 0, 0
	try := func(line string) {
		if !isLine(line) {
			wantNoLine(t, line)
			wrong++
			return
		}
		x, e := editor.Parse(line)
		if e != api.OK || lineOf(x) != line || !forms[x.Kind].MatchString(line) {
			t.Errorf("%q: %+v, %v", line, x, e)
		}
		wantLine(t, x, line)
		right++
	}
	for line := range ordinary() {
		if len(line) > 100 {
			continue
		}
		for n := range len(line) + 1 {
			for _, s := range []string{"", " ", "0", "1", "9", "a", "z", "/", "A", "\n", "-", "é"} {
				try(line[:n] + s + line[n:])
				if n < len(line) {
					try(line[:n] + s + line[n+1:])
				}
			}
		}
	}
	if right < 1000 || wrong < 1000 {
		t.Error(right, wrong)
	}
}

// P12.2: any order has the line that the document says, and this line has the order.
func TestAnyOrders(t *testing.T) {
	d := dice(2)
	for range 300 {
		o := d.walked(d.roll(10))
		for range 10 {
			x := d.order(o)
			wantLine(t, x, lineOf(x))
		}
	}
}
