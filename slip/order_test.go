package slip_test

import (
	"math"
	"slices"
	"testing"

	"postil/api"
	"postil/slip"
)

// P3.6: slips in their order, each one before all those behind it.
func TestOrder(t *testing.T) {
	l := []api.Slip{
		slipOf(place(9, 9, 9), "z", "a", "z"),
		slipOf(place(0, 0, 0), "", "ab", ""),
		slipOf(place(math.MinInt, 9, 9), "z", "b", "z"),
		slipOf(place(-1, 9, 9), "z", "b", "z"),
		slipOf(place(0, math.MinInt, 9), "z", "b", "z"),
		slipOf(place(0, -1, 9), "z", "b", "z"),
		slipOf(place(0, 0, math.MinInt), "z", "b", "z"),
		slipOf(place(0, 0, -1), "z", "b", "z"),
		slipOf(place(0, 0, 0), "", "b", ""),
		slipOf(place(0, 0, 0), "a", "b", ""),
		slipOf(place(0, 0, 0), "a z", "b", ""),
		slipOf(place(0, 0, 0), "ab", "b", ""),
		slipOf(place(0, 0, 0), "b", "b", ""),
		slipOf(place(0, 0, 0), "z", "b", "a"),
		slipOf(place(0, 0, 0), "y", "b", "a z"),
		slipOf(place(0, 0, 0), "x", "b", "ab"),
		slipOf(place(0, 0, 0), "", "b", "b"),
		slipOf(place(0, 0, 0), "", "b", "ba"),
		slipOf(place(0, 0, 1), "", "b", ""),
		slipOf(place(0, 0, math.MaxInt), "", "b", ""),
		slipOf(place(0, 1, 0), "", "b", ""),
		slipOf(place(0, math.MaxInt, 0), "", "b", ""),
		slipOf(place(1, 0, 0), "", "b", ""),
		slipOf(place(math.MaxInt, 0, 0), "", "b", ""),
		slipOf(place(0, 0, 0), "", "ba", ""),
		slipOf(place(0, 0, 0), "", "c", ""),
	}
	for i, a := range l {
		for j, b := range l {
			want := 0
			switch {
			case i < j:
				want = -1
			case i > j:
				want = 1
			}
			n, e := slip.Order(a, b)
			wantOne(t, []api.Slip{a, b}, n, e, want)
		}
	}
}

// P3.14: no two slips that are not the same are equal, turned round the order is the other way, and it is one order of all.
func TestOneOrder(t *testing.T) {
	d := dice(9)
	for range 20 {
		var l []api.Slip
		for range 50 {
			l = append(l, d.slip())
		}
		slices.SortFunc(l, func(a, b api.Slip) int {
			n, e := slip.Order(a, b)
			if e != api.OK {
				t.Error(a, b, e)
			}
			return n
		})
		for i, a := range l {
			for j, b := range l {
				n, _ := slip.Order(a, b)
				m, _ := slip.Order(b, a)
				if (n == 0) != (a == b) || m != -n || n < -1 || n > 1 || i < j && n > 0 {
					t.Errorf("%v and %v: %d, %d", a, b, n, m)
				}
			}
		}
	}
}

// slip is a valid slip, of which there are not many.
func (d *dice) slip() api.Slip {
	one := func(l ...string) string { return l[d.roll(len(l))] }
	number := func() int { return []int{math.MinInt, 0, 1, math.MaxInt}[d.roll(4)&d.roll(4)] }
	return slipOf(place(number(), number(), number()), one("", "a", "a b"), one("a", "ab"), one("", "b", "ba"))
}
