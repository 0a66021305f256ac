package pairs

import (
	"math"
	"testing"

	"linotype/api"
)

// table is what the chapter's rules tell, written out: a row for each class ahead, in the order of api.
var table = []string{
	//         other cr lf control extend zwj ri prepend spacing l v t lv lvt
	api.Other:   "00001100100000",
	api.CR:      "00100000000000",
	api.LF:      "00000000000000",
	api.Control: "00000000000000",
	api.Extend:  "20001100100000",
	api.ZWJ:     "20001100100000",
	api.RI:      "00001120100000",
	api.Prepend: "10001111111111",
	api.Spacing: "00001100100000",
	api.L:       "00001100111011",
	api.V:       "00001100101100",
	api.T:       "00001100100100",
	api.LV:      "00001100101100",
	api.LVT:     "00001100100100",
}

// 14.1: all classes.
func TestJoin(t *testing.T) {
	for a, row := range table {
		for b := range row {
			if got, want := Join(a, b), int(row[b]-'0'); got != want {
				t.Errorf("Join(%d, %d) is %d, not %d", a, b, got, want)
			}
		}
	}
}

// 14.1: what is no class counts as Other.
func TestNoClass(t *testing.T) {
	for _, n := range []int{-1, 14, 100, math.MinInt, math.MaxInt} {
		for c := range 14 {
			if Join(n, c) != Join(api.Other, c) || Join(c, n) != Join(c, api.Other) {
				t.Errorf("%d and %d: %d, %d", n, c, Join(n, c), Join(c, n))
			}
		}
		if Join(n, n) != 0 {
			t.Errorf("Join(%d, %d) is %d", n, n, Join(n, n))
		}
	}
}

// 14.2: what may go together with Other behind it.
func TestOther(t *testing.T) {
	for a := range 14 {
		if want := a == api.Prepend || a == api.ZWJ || a == api.Extend; Join(a, api.Other) > 0 != want {
			t.Errorf("Join(%d, Other) is %d", a, Join(a, api.Other))
		}
	}
}
