package chart

import (
	"cmp"
	"slices"

	"postil/api"
)

// plain returns the sound edition with the same Id and the same map that has the fewest stretches, in the order of the base.
func plain(e api.Edition) api.Edition {
	l := slices.Clone(e.Stretches)
	slices.SortFunc(l, func(a, b api.Stretch) int {
		return cmp.Or(cmp.Compare(a.Chapter, b.Chapter), cmp.Compare(a.From, b.From))
	})
	return api.Edition{Id: e.Id, Stretches: merged(l, mergeStretches)}
}

// merged returns what a list has, in its order, with each thing put together with those behind it as far as merge can do so.
func merged[T any](l []T, merge func(a, b T) (T, bool)) []T {
	var fewest []T
	for _, x := range l {
		if last := len(fewest) - 1; last >= 0 {
			if both, ok := merge(fewest[last], x); ok {
				fewest[last] = both
				continue
			}
		}
		fewest = append(fewest, x)
	}
	return fewest
}

// mergeStretches returns two stretches as one, and whether the second one goes on where the first one ends.
func mergeStretches(a, b api.Stretch) (api.Stretch, bool) {
	behind := api.Stretch{Chapter: a.Chapter, From: a.To, To: b.To, As: a.As, First: a.First + a.To - a.From}
	a.To = b.To
	return a, b == behind
}

// mergePasses returns two passes as one, and whether the second one goes on where the first one ends, in both editions.
func mergePasses(a, b api.Pass) (api.Pass, bool) {
	behind := api.Pass{Chapter: a.Chapter, Line: a.Line + a.Lines, ToChapter: a.ToChapter, ToLine: a.ToLine + a.Lines, Lines: b.Lines}
	a.Lines += b.Lines
	return a, b == behind
}

// cross returns the fewest passes from a sound edition to another one, in the order of the first one.
func (e edition) cross(f edition) []api.Pass {
	var l []api.Pass
	for at, n := range e.lines() {
		if to, there := f.numbersOf(at); there {
			l = append(l, api.Pass{Chapter: n[0], Line: n[1], ToChapter: to[0], ToLine: to[1], Lines: 1})
		}
	}
	slices.SortFunc(l, func(a, b api.Pass) int {
		return cmp.Or(cmp.Compare(a.Chapter, b.Chapter), cmp.Compare(a.Line, b.Line))
	})
	return merged(l, mergePasses)
}

// moved returns the plain edition in which some lines are in another chapter, with numbers there that are so much greater, and which that chapter has not yet: ErrFull if there are too many stretches.
func (e edition) moved(l []numbers, to, by int) (api.Edition, api.Errno) {
	places := e.byNumbers()
	for _, n := range l {
		at := places[n]
		delete(places, n)
		places[numbers{to, n[1] + by}] = at
	}
	lines := api.Edition{Id: e.Id}
	for n, at := range places {
		lines.Stretches = append(lines.Stretches, api.Stretch{Chapter: at.Chapter, From: at.Line, To: at.Line + 1, As: n[0], First: n[1]})
	}
	// The order of the map is not seen, as plain puts the lines in that of the base.
	changed := plain(lines)
	if len(changed.Stretches) > api.MaxStretches {
		return api.Edition{}, api.ErrFull
	}
	return changed, api.OK
}
