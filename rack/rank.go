package rack

import (
	"slices"
	"strings"

	"postil/api"
	"postil/slip"
)

// ranking is what slips are ranked by: how two of them are compared, as by strings.Compare.
type ranking struct {
	compare func(a, b api.Slip) int
}

// rankings is the array of what slips are ranked by; what is at 0 is none of them.
func rankings() [api.ByAfter + 1]ranking {
	return [...]ranking{
		api.ByOrder:  {compare: compareSlips},
		api.ByWord:   {compare: func(a, b api.Slip) int { return strings.Compare(a.Word, b.Word) }},
		api.ByBefore: {compare: func(a, b api.Slip) int { return strings.Compare(a.Before, b.Before) }},
		api.ByAfter:  {compare: func(a, b api.Slip) int { return strings.Compare(a.After, b.After) }},
	}
}

// compareSlips compares valid slips.
func compareSlips(a, b api.Slip) int {
	n, _ := slip.Order(a, b)
	return n
}

func isRanking(by uint8) bool {
	return within(api.Span{Lo: api.ByOrder, Hi: api.ByAfter}, int(by))
}

// ranksOf returns the ranks of valid slips.
func ranksOf(l []api.Slip, by uint8) []int {
	compare := rankings()[by].compare
	different := slices.Clone(l)
	slices.SortFunc(different, compare)
	different = slices.CompactFunc(different, func(a, b api.Slip) bool { return compare(a, b) == 0 })
	ranks := make([]int, len(l))
	for i, s := range l {
		ranks[i], _ = slices.BinarySearchFunc(different, s, compare)
	}
	return ranks
}
