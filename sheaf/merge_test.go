package sheaf_test

import (
	"slices"
	"testing"

	"postil/api"
	"postil/sheaf"
)

// wantMerge checks what two files that were made of one are merged to, whichever of them is merged into the other one.
func wantMerge(t *testing.T, o, a, b []string, want []string, e api.Errno) {
	t.Helper()
	for _, x := range [][2][]string{{a, b}, {b, a}} {
		l, f := sheaf.Merge(o, x[0], x[1])
		if !slices.Equal(l, want) || f != e {
			t.Errorf("%.500q with %.500q and %.500q: %.500q, %v, not %.500q, %v", o, x[0], x[1], l, f, want, e)
		}
	}
}

// P11.8: rows by rows.
func TestMerge(t *testing.T) {
	for _, x := range []struct {
		o, a, b, want string
		e             api.Errno
	}{
		{"", "", "", "", api.OK},
		{"abc", "abc", "abc", "abc", api.OK},
		// One of them is the same as o, or both are changed in the same way.
		{"abc", "abc", "xyz", "xyz", api.OK},
		{"abc", "abc", "", "", api.OK},
		{"", "", "abc", "abc", api.OK},
		{"abc", "xyz", "xyz", "xyz", api.OK},
		{"abc", "", "", "", api.OK},
		{"", "ab", "ab", "ab", api.OK},
		// Both of them are changed, with a row between them.
		{"abc", "xbc", "aby", "xby", api.OK},
		{"abc", "bc", "ab", "b", api.OK},
		{"abc", "xabc", "abcy", "xabcy", api.OK},
		{"a", "xa", "ay", "xay", api.OK},
		{"abc", "xyzbc", "ab", "xyzb", api.OK},
		{"abcde", "abxde", "abcdy", "abxdy", api.OK},
		{"abcde", "axbcde", "abcdye", "axbcdye", api.OK},
		{"abcde", "bcde", "abyde", "byde", api.OK},
		{"abc", "xabc", "axc", "xaxc", api.OK},
		{"abc", "abcx", "axc", "axcx", api.OK},
		{"abc", "abxc", "xabc", "xabxc", api.OK},
		// No row is between them.
		{"ab", "xb", "ay", "", api.ErrMerge},
		{"ab", "b", "a", "", api.ErrMerge},
		{"ab", "xb", "yb", "", api.ErrMerge},
		{"ab", "axb", "ayb", "", api.ErrMerge},
		{"ab", "xab", "yab", "", api.ErrMerge},
		{"ab", "abx", "aby", "", api.ErrMerge},
		{"", "a", "b", "", api.ErrMerge},
		{"", "a", "ab", "", api.ErrMerge},
		{"ab", "axb", "xb", "", api.ErrMerge},
		{"ab", "axb", "ay", "", api.ErrMerge},
		{"ab", "axb", "a", "", api.ErrMerge},
		{"ab", "axb", "b", "", api.ErrMerge},
		{"abc", "axc", "ayc", "", api.ErrMerge},
		{"abc", "", "abx", "", api.ErrMerge},
		{"abc", "xyz", "aybc", "", api.ErrMerge},
		{"abcd", "axyd", "abzcd", "", api.ErrMerge},
		{"abcd", "axcy", "abzd", "", api.ErrMerge},
		{"abc", "ac", "", "", api.ErrMerge},
	} {
		wantMerge(t, letters(x.o), letters(x.a), letters(x.b), letters(x.want), x.e)
	}
}

// P11.8: all small files, by the word of the document.
func TestMergeOfAllSmallFiles(t *testing.T) {
	two := allRows(4, "ab")
	errors := map[api.Errno]int{}
	for _, o := range append(two, letters("abcd"), letters("abcde"), letters("abcba")) {
		for _, a := range two {
			for _, b := range two {
				want, e := mergeOf(o, a, b)
				wantMerge(t, o, a, b, want, e)
				errors[e]++
			}
		}
	}
	if errors[api.OK] < 1000 || errors[api.ErrMerge] < 1000 {
		t.Error(errors)
	}
}

// P11.8, P11.14: files that are changed by some rows.
func TestMergeOfEdited(t *testing.T) {
	d := dice(8)
	both := 0
	for range 20000 {
		o := d.few(12)
		a, b := d.edited(o), d.edited(o)
		want, e := mergeOf(o, a, b)
		wantMerge(t, o, a, b, want, e)
		if e != api.OK || slices.Equal(a, o) || slices.Equal(b, o) || slices.Equal(a, b) {
			continue
		}
		both++
		// What the other one changed is what is left to change: the hunk is the same one, moved by the rows of this one before it.
		for _, x := range [][2][]string{{a, b}, {b, a}} {
			one, other := hunkOf(o, x[0]), hunkOf(o, x[1])
			if one.At < other.At {
				other.At += len(one.Put) - one.Drop
			}
			s, e := sheaf.Save(shelf(x[0]), want)
			wantAny(t, []any{o, x[0], x[1]}, s, e, shelf(x[0], other))
		}
		// What neither changed is as it was, and what just one changed as there.
		wantKept(t, o, a, b, want)
	}
	if both < 2000 {
		t.Error(both)
	}
}

// wantKept checks the rows before both hunks, each hunk, the rows between them, and those behind both.
func wantKept(t *testing.T, o, a, b, merged []string) {
	t.Helper()
	first, second := hunkOf(o, a), hunkOf(o, b)
	if second.At < first.At {
		first, second = second, first
	}
	var want []string
	want = append(want, o[:first.At]...)
	want = append(want, first.Put...)
	want = append(want, o[first.At+first.Drop:second.At]...)
	want = append(want, second.Put...)
	want = append(want, o[second.At+second.Drop:]...)
	wantList(t, []any{o, a, b}, merged, api.OK, want...)
}

// P11.8: ErrRows unless all three are rows, ahead of all else.
func TestErrorsOfMerge(t *testing.T) {
	good := [][]string{letters("abc"), letters("xbc"), letters("aby")}
	bad := [][]string{numbered(201), slices.Repeat(rows("a"), 1000000)}
	for _, row := range noRows {
		bad = append(bad, rows(row), rows("a", row, "c"))
	}
	for _, l := range bad {
		for n := range good {
			x := slices.Clone(good)
			x[n] = l
			wantMerge(t, x[0], x[1], x[2], nil, api.ErrRows)
			// If both others are the same, or one of them is, too.
			for _, other := range good {
				x = [][]string{other, other, other}
				x[n] = l
				wantMerge(t, x[0], x[1], x[2], nil, api.ErrRows)
				x = [][]string{l, l, l}
				x[n] = other
				wantMerge(t, x[0], x[1], x[2], nil, api.ErrRows)
			}
		}
		wantMerge(t, l, l, l, nil, api.ErrRows)
	}
}

// P11.8: ErrRows if there were more than 200 rows, but none of files of 200 rows.
func TestMergeOfLongFiles(t *testing.T) {
	o := numbered(199)
	first, last := append(rows("a"), o...), append(slices.Clone(o), "b")
	wantMerge(t, o, first, last, nil, api.ErrRows)
	wantMerge(t, o, first, o, first, api.OK)
	wantMerge(t, o, first, first, first, api.OK)
	wantMerge(t, o, first, append(numbered(198), "b"), append(append(rows("a"), numbered(198)...), "b"), api.OK)
	o = numbered(198)
	wantMerge(t, o, append(rows("a"), o...), append(slices.Clone(o), "b"), append(append(rows("a"), o...), "b"), api.OK)
	wantMerge(t, o, append(rows("a", "a"), o...), append(slices.Clone(o), "b"), nil, api.ErrRows)
	o = numbered(200)
	wantMerge(t, o, o[1:], o[:199], o[1:199], api.OK)
	wantMerge(t, o, append(rows("a"), o[1:]...), append(numbered(199), "b"), append(append(rows("a"), o[1:199]...), "b"), api.OK)
	wantMerge(t, o, nil, o, nil, api.OK)
	wantMerge(t, o, o[2:], append(o[:199:199], "b"), append(slices.Clone(o[2:199]), "b"), api.OK)
	// ErrMerge is ahead of it.
	o = numbered(100)
	wantMerge(t, o, append(numbered(200)[100:], o...), append(append(numbered(200)[120:], "x"), o...), nil, api.ErrMerge)
	wantMerge(t, o, append(numbered(200)[100:], o...), append(slices.Clone(o), numbered(200)[120:]...), nil, api.ErrRows)
}
