package pinned

import (
	"math"
	"slices"
	"testing"

	"linotype/api"
)

func TestHas(t *testing.T) {
	table := [][2]rune{{3, 5}, {6, 6}, {9, 12}}
	for r, want := range map[rune]bool{2: false, 3: true, 4: true, 5: true, 6: true, 7: false, 8: false, 9: true, 12: true, 13: false, -1: false, math.MinInt32: false, math.MaxInt32: false} {
		if Has(table, r) != want {
			t.Errorf("Has(%d) is %v", r, Has(table, r))
		}
	}
	if Has(nil, 0) {
		t.Error("nothing has something")
	}
}

func TestFewest(t *testing.T) {
	l := Add(nil, 2, [2]rune{9, 9}, [2]rune{11, 12})
	l = Add(l, 1, [2]rune{3, 4}, [2]rune{10, 10})
	l = Add(l, 2, [2]rune{13, 20})
	want := []api.Span{{Lo: 3, Hi: 4, Val: 1}, {Lo: 9, Hi: 9, Val: 2}, {Lo: 10, Hi: 10, Val: 1}, {Lo: 11, Hi: 20, Val: 2}}
	if got := Fewest(l); !slices.Equal(got, want) {
		t.Error(got)
	}
}
