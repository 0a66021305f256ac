package cursor

import (
	"math"
	"testing"

	"linotype/api"
)

func at(row, col int) api.Cursor      { return api.Cursor{Row: row, Col: col} }
func pending(row, col int) api.Cursor { return api.Cursor{Row: row, Col: col, Pending: true} }

// 31.1: what may be, and how it is held.
func TestHold(t *testing.T) {
	for _, x := range []struct {
		c    api.Cursor
		w, h int
		want api.Cursor
	}{
		{at(0, 0), 3, 2, at(0, 0)},
		{at(1, 2), 3, 2, at(1, 2)},
		{pending(1, 2), 3, 2, pending(1, 2)},
		{pending(1, 1), 3, 2, at(1, 1)},
		{pending(0, 3), 3, 2, at(0, 2)},
		{pending(9, 2), 3, 2, pending(1, 2)},
		{pending(0, 0), 1, 1, pending(0, 0)},
		{pending(0, 0), 0, -5, pending(0, 0)},
		{at(-1, -1), 3, 2, at(0, 0)},
		{pending(0, -1), 1, 1, at(0, 0)},
		{at(math.MinInt, math.MaxInt), 3, 2, at(0, 2)},
		{at(math.MaxInt, math.MinInt), math.MinInt, math.MaxInt, at(1023, 0)},
		{pending(5000, 1023), 5000, 5000, pending(1023, 1023)},
		{pending(0, 4999), 5000, 1, at(0, 1023)},
	} {
		if got := Hold(x.c, x.w, x.h); got != x.want {
			t.Errorf("Hold(%v, %d, %d): %v", x.c, x.w, x.h, got)
		}
		if got := Right(x.c, x.w, x.h); got != (x.c == x.want) {
			t.Errorf("Right(%v, %d, %d): %v", x.c, x.w, x.h, got)
		}
		x.c.Pending = false
		x.want.Pending = false
		if got := Move(x.c.Row, x.c.Col, x.w, x.h); got != x.want {
			t.Errorf("Move(%v, %d, %d): %v", x.c, x.w, x.h, got)
		}
	}
}

// 31.2: the begin of the row, one back, one down.
func TestSteps(t *testing.T) {
	for _, x := range []struct{ c, begin, back api.Cursor }{
		{pending(2, 5), at(2, 0), at(2, 4)},
		{at(0, 1), at(0, 0), at(0, 0)},
		{pending(0, 0), at(0, 0), at(0, 0)},
		{at(-3, -7), at(-3, 0), at(-3, -7)},
		{at(math.MaxInt, math.MinInt), at(math.MaxInt, 0), at(math.MaxInt, math.MinInt)},
	} {
		if Return(x.c) != x.begin || Back(x.c) != x.back {
			t.Errorf("%v: %v, %v", x.c, Return(x.c), Back(x.c))
		}
	}
	for _, x := range []struct {
		c    api.Cursor
		h    int
		want api.Cursor
		ends bool
	}{
		{pending(0, 5), 2, at(1, 5), false},
		{pending(1, 5), 2, at(1, 5), true},
		{at(0, 0), 0, at(0, 0), true},
		{at(0, 0), math.MinInt, at(0, 0), true},
		{at(1022, 0), math.MaxInt, at(1023, 0), false},
		{at(1023, 0), math.MaxInt, at(1023, 0), true},
		{at(math.MaxInt, 0), 5, at(math.MaxInt, 0), true},
		{at(math.MinInt, 0), 5, at(math.MinInt+1, 0), false},
	} {
		if got, ends := Down(x.c, x.h); got != x.want || ends != x.ends {
			t.Errorf("Down(%v, %d): %v, %v", x.c, x.h, got, ends)
		}
	}
}

// 31.3: behind a cluster.
func TestAfter(t *testing.T) {
	for _, x := range []struct {
		c       api.Cursor
		wide, w int
		auto    bool
		want    api.Cursor
	}{
		{at(0, 8), 2, 10, true, pending(0, 9)},
		{at(0, 8), 2, 10, false, at(0, 9)},
		{at(0, 8), 1, 10, true, at(0, 9)},
		{at(0, 9), 1, 10, true, pending(0, 9)},
		{pending(3, 9), 1, 10, false, at(3, 9)},
		{pending(3, 2), 2, 10, true, at(3, 4)},
		{at(0, 0), 1, 1, true, pending(0, 0)},
		{at(0, 0), 9, 3, true, at(0, 2)},
		{at(0, 0), math.MinInt, 3, true, at(0, 1)},
		{at(0, 0), math.MaxInt, 2, true, pending(0, 1)},
		{at(0, math.MaxInt), 2, 10, true, pending(0, 9)},
		{at(0, -4), 2, 10, true, at(0, -2)},
		{at(0, 0), 1, -1, true, pending(0, 0)},
		{at(0, 1022), 1, math.MaxInt, true, at(0, 1023)},
		{at(0, 1022), 2, math.MaxInt, true, pending(0, 1023)},
	} {
		if got := After(x.c, x.wide, x.w, x.auto); got != x.want {
			t.Errorf("After(%v, %d, %d, %v): %v", x.c, x.wide, x.w, x.auto, got)
		}
	}
}

// 31.4: of a cursor that may be all may be, if it is held.
func TestMayBe(t *testing.T) {
	for w := 1; w < 4; w++ {
		for h := 1; h < 4; h++ {
			for i := range w * h * 2 {
				c := api.Cursor{Row: i / 2 / w, Col: i / 2 % w, Pending: i%2 == 1}
				if want := !c.Pending || c.Col == w-1; Right(c, w, h) != want {
					t.Errorf("Right(%v, %d, %d) is %v", c, w, h, !want)
				}
				if !Right(c, w, h) {
					continue
				}
				down, _ := Down(c, h)
				for _, x := range []api.Cursor{Return(c), Back(c), down, After(c, 1, w, true), After(c, 2, w, true), After(c, 2, w, false)} {
					if !Right(Hold(x, w, h), w, h) || !Right(x, w, h) {
						t.Errorf("%v comes of %v", x, c)
					}
				}
			}
		}
	}
}
