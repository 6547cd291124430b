package galley_test

import (
	"slices"
	"testing"

	"postil/api"
	"postil/galley"
	"postil/leaf"
	"postil/slip"
)

// P8.1: the galleys of some texts: words in the order of texts, whichever comes first, in whichever chapter.
func TestSet(t *testing.T) {
	cut := api.Cut{Width: 12, Side: api.SideLeft}
	for _, x := range []struct {
		t    api.Text
		want []api.Block
	}{
		{book("a"), []api.Block{{Word: "a", Lines: 2}}},
		{book("b a"), []api.Block{{Word: "a", Lines: 2}, {Word: "b", Lines: 2}}},
		{book("sea/a", "sea", "sea a/ab"), []api.Block{{Word: "a", Lines: 3}, {Word: "ab", Lines: 2}, {Word: "sea", Lines: 4}}},
		{book(long + " a a a a a a a a a/a a a a a a a a a a"), []api.Block{{Word: "a", Lines: 20}, {Word: long, Lines: 2}}},
	} {
		for _, height := range []int{4, 5, 40} {
			g, e := galley.Set(x.t, cut, height)
			wantGalley(t, x.t, g, e, api.Galley{Height: height, Blocks: x.want})
		}
	}
}

// P8.12: each slip of a text has its line, each word its heading, whatever the cut is.
func TestEachSlipHasItsLine(t *testing.T) {
	d := dice(11)
	for range 300 {
		text := d.text()
		cut := api.Cut{Width: 12 + d.roll(69), Side: uint8(1 + d.roll(3))}
		height := 4 + d.roll(37)
		want := api.Galley{Height: height}
		words := allWords(text)
		for _, word := range slices.Compact(slices.Sorted(slices.Values(words))) {
			times := 0
			for _, other := range words {
				if other == word {
					times++
				}
			}
			want.Blocks = append(want.Blocks, api.Block{Word: word, Lines: 1 + times})
		}
		g, e := galley.Set(text, cut, height)
		wantGalley(t, text, g, e, want)
		wantOne(t, text, galley.Check(g), api.OK, api.OK)
		slips, _ := slip.All(text, cut)
		vocabulary, _ := leaf.Vocabulary(text)
		n, e := galley.Total(g)
		wantOne(t, text, n, e, len(slips)+len(vocabulary))
		for i, word := range vocabulary {
			places, _ := leaf.Places(text, word)
			wantOne(t, text, g.Blocks[i], e, api.Block{Word: word, Lines: 1 + len(places)})
		}
	}
}
