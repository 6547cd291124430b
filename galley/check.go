package galley

import (
	"slices"

	"postil/api"
	"postil/leaf"
)

// within tells whether all numbers are in a span.
func within(s api.Span, numbers ...int) bool {
	for _, n := range numbers {
		if n < s.Lo || n > s.Hi {
			return false
		}
	}
	return true
}

// isIndex tells whether a list of this length has the index.
func isIndex(i, length int) bool { return within(api.Span{Lo: 0, Hi: length - 1}, i) }

func isHeight(height int) bool {
	return within(api.Span{Lo: api.MinHeight, Hi: api.MaxHeight}, height)
}

// isLong tells whether a block may have so many lines.
func isLong(lines int) bool { return within(api.Span{Lo: 1, Hi: api.MaxLong}, lines) }

// isWord asks layer 1, which knows what a word is, whether a text may have this one.
func isWord(s string) bool {
	return leaf.Check(api.Text{Chapters: []api.Chapter{{Lines: [][]string{{s}}}}}) == api.OK
}

func isBlock(b api.Block) bool { return isLong(b.Lines) && isWord(b.Word) }

func isGalley(g api.Galley) bool {
	if !isHeight(g.Height) || !within(api.Span{Lo: 1, Hi: api.MaxBlocks}, len(g.Blocks)) {
		return false
	}
	return !slices.ContainsFunc(g.Blocks, func(b api.Block) bool { return !isBlock(b) })
}
