package leaf_test

import (
	"slices"
	"strconv"
	"strings"
	"testing"

	"postil/api"
	"postil/leaf"
)

var withText = []string{"Check", "CheckCopy", "Words", "At", "Number", "PlaceOf", "Places", "Vocabulary", "Read", "Stands", "Find", "Apart", "Doubt"}

// badTexts is texts that are not valid, by what is wrong with them.
func badTexts() map[string]api.Text {
	l := map[string]api.Text{
		"nil chapters":   {},
		"empty chapters": {Chapters: []api.Chapter{}},
		"seven chapters": book("a", "a", "a", "a", "a", "a", "a"),
		"eleven lines":   book("a", strings.Repeat("a/", 10)+"a"),
		"eleven words":   book("a", "a/"+strings.Repeat("a ", 11)),
		"no words":       book("a//a"),
		"last line":      book("a", "a/a/"),
	}
	for _, id := range far {
		t := book("a", "b")
		t.Chapters[1].Id = id
		l["the Id "+strconv.Itoa(id)] = t
	}
	for _, s := range []string{"", "A", "aB", "a b", " a", "a ", "a1", "a-", "`", "{", "é", "\x00", "a\xff", "abcdefghijklm", strings.Repeat("a", 300)} {
		t := book("a", "a/a b c")
		t.Chapters[1].Lines[1][2] = s
		l["the word "+strconv.Quote(s)] = t
	}
	same, apart := book("a", "b"), book("a", "b", "c")
	same.Chapters[1].Id = same.Chapters[0].Id
	apart.Chapters[2].Id = apart.Chapters[0].Id
	noLines, noLine := book("a", "b"), book("a", "b")
	noLines.Chapters[0].Lines = nil
	noLine.Chapters[1].Lines[0] = []string{}
	l["Ids that are the same"], l["Ids that are the same, not one behind the other"] = same, apart
	l["nil lines"], l["a line without words"] = noLines, noLine
	return l
}

// P1.1: Check, and its error before all others, in all calls and of all their texts.
func TestTextsThatAreNotValid(t *testing.T) {
	all := map[string]api.Errno{}
	for _, call := range withText {
		all[call] = api.ErrText
	}
	wrong := input{c: api.Copy{Id: -1}, p: place(-1, 0, 0), n: -1, word: "A", l: make([]api.Copy, 6)}
	for name, bad := range badTexts() {
		t.Run(name, func(t *testing.T) {
			x, y := wrong, input{t: sample(), u: bad, n: -1}
			x.t, x.u = bad, sample()
			wantErrors(t, x, all)
			wantErrors(t, y, map[string]api.Errno{"Find": api.ErrText, "Apart": api.ErrText})
		})
	}
}

// P1.1: all that is just allowed.
func TestTextsThatAreValid(t *testing.T) {
	ten := strings.Repeat("a/", 9) + strings.Repeat("a ", 10)
	down := book("a", "b", "c")
	down.Chapters[0].Id, down.Chapters[1].Id, down.Chapters[2].Id = api.MaxId, 5, 0
	for i, x := range []struct {
		t     api.Text
		words int
	}{
		{book("a"), 1}, {book("abcdefghijkl"), 1}, {book("az zyx"), 2}, {down, 3}, {sample(), 10}, {book("a", "a", "a", "a", "a", "a"), 6}, {book(ten, ten), 38},
		{book(slices.Repeat([]string{strings.Repeat("z z z z z z z z z z/", 9) + "z z z z z z z z z z"}, 6)...), 600},
	} {
		if e := leaf.Check(x.t); e != api.OK {
			t.Error(i, e)
		}
		if n, e := leaf.Words(x.t); n != x.words || e != api.OK {
			t.Error(i, n, e)
		}
	}
}

// P1.1 and P1.2: the word and the number of a place; P1.8: each place has one number, and each number one place.
func TestPlacesAndNumbers(t *testing.T) {
	for _, x := range texts() {
		l := places(x)
		for n, p := range l {
			number, e := leaf.Number(x, p)
			back, f := leaf.PlaceOf(x, n)
			if number != n || e != api.OK || back != p || f != api.OK {
				t.Errorf("%v has the number %d, %v; %d is %v, %v", p, number, e, n, back, f)
			}
			if s, e := leaf.At(x, p); s != word(x, p) || e != api.OK {
				t.Errorf("at %v is %q, %v", p, s, e)
			}
		}
		if n, e := leaf.Words(x); n != len(l) || e != api.OK {
			t.Errorf("%d words, %v, not %d", n, e, len(l))
		}
		for _, n := range append([]int{len(l)}, far...) {
			wantErrors(t, input{t: x, u: x, n: n}, map[string]api.Errno{"PlaceOf": api.ErrArg})
		}
		for _, p := range noPlaces(x) {
			wantErrors(t, input{t: x, u: x, p: p}, map[string]api.Errno{"At": api.ErrPlace, "Number": api.ErrPlace, "Stands": api.ErrPlace})
		}
	}
}

// P1.3: the places of each word, and all words; P1.8: each place is one of its word, once, and of no other one.
func TestWordsAndTheirPlaces(t *testing.T) {
	for _, x := range texts() {
		vocabulary, e := leaf.Vocabulary(x)
		if e != api.OK || !slices.IsSorted(vocabulary) || len(slices.Compact(slices.Clone(vocabulary))) != len(vocabulary) {
			t.Errorf("words %v, %v", vocabulary, e)
		}
		var all []api.Place
		for _, s := range vocabulary {
			l, e := leaf.Places(x, s)
			if e != api.OK || len(l) == 0 {
				t.Errorf("places of %q: %v, %v", s, l, e)
			}
			before := -1
			for _, p := range l {
				n, _ := leaf.Number(x, p)
				if word(x, p) != s || n <= before {
					t.Errorf("place %v of %q", p, s)
				}
				before = n
			}
			all = append(all, l...)
		}
		if len(all) != len(places(x)) {
			t.Errorf("%d places of all words, not %d", len(all), len(places(x)))
		}
	}
}

// P1.3: texts are in order letter by letter, and a word is before all longer ones that begin with it.
func TestOrderOfWords(t *testing.T) {
	l, e := leaf.Vocabulary(book("b zz ab z a/abc", "a zza b ba/ab"))
	if !same(l, []string{"a", "ab", "abc", "b", "ba", "z", "zz", "zza"}, e) {
		t.Error(l, e)
	}
}

// P1.3: words that do not stand there, and what is no word.
func TestWordsThatAreNotThere(t *testing.T) {
	for _, s := range []string{"x", "se", "seas", "abcdefghijkl"} {
		if l, e := leaf.Places(sample(), s); len(l) != 0 || e != api.OK {
			t.Errorf("places of %q: %v, %v", s, l, e)
		}
	}
	for _, s := range []string{"", "Sea", "the sea", "sea ", "`", "{", "é", "\x00", "abcdefghijklm", strings.Repeat("a", 300)} {
		wantErrors(t, input{t: sample(), word: s}, map[string]api.Errno{"Places": api.ErrArg})
	}
}

// texts is texts of many shapes.
func texts() []api.Text {
	l := []api.Text{sample(), book("a"), book("a/b/a", "a b c d e f g h i j", "b/a a")}
	d := dice(1)
	for range 20 {
		l = append(l, d.text(4))
	}
	return l
}
