// Package pinned seeks in pinned tables: stretches of numbers, from the first to the second of two, that rise and don't meet.
package pinned

import (
	"cmp"
	"slices"
	"sort"

	"linotype/api"
	"linotype/spans"
)

// Has: does a number lie in a stretch of the table?
func Has(table [][2]rune, r rune) bool {
	i := sort.Search(len(table), func(i int) bool { return table[i][1] >= r })
	return i < len(table) && table[i][0] <= r
}

// Add puts the stretches of a table as spans with one value behind others.
func Add(l []api.Span, val int, table ...[2]rune) []api.Span {
	for _, s := range table {
		l = append(l, api.Span{Lo: int(s[0]), Hi: int(s[1]), Val: val})
	}
	return l
}

// Fewest are the fewest spans of some that don't meet, in whatever order they come.
func Fewest(l []api.Span) []api.Span {
	slices.SortFunc(l, func(a, b api.Span) int { return cmp.Compare(a.Lo, b.Lo) })
	return spans.Fewest(l)
}
