package ctrl

import (
	"math"
	"slices"
	"testing"

	"linotype/api"
	"linotype/cell"
	"linotype/place"
)

func at(row, col int) api.Cursor      { return api.Cursor{Row: row, Col: col} }
func pending(row, col int) api.Cursor { return api.Cursor{Row: row, Col: col, Pending: true} }

// pen is 2 columns and 2 rows, full of letters.
func pen(c api.Cursor) *place.Pen {
	p := place.New(2, 2)
	for r := range rune(4) {
		p.Put(1, 0x61+r)
	}
	p.At = c
	return p
}

func text(p *place.Pen) string {
	var s []rune
	for _, l := range p.G.Lines() {
		s = append(s, cell.Text(l.Cells...)...)
	}
	return string(s)
}

// 36.1: the three that do something.
func TestDo(t *testing.T) {
	for _, x := range []struct {
		r    rune
		from api.Cursor
		want api.Cursor
		text string
	}{
		{0xd, pending(1, 1), at(1, 0), "abcd"},
		{0xd, at(9, 9), at(1, 0), "abcd"},
		{0x8, pending(0, 1), at(0, 0), "abcd"},
		{0x8, at(0, 0), at(0, 0), "abcd"},
		{0x8, at(-1, 9), at(0, 0), "abcd"},
		{0xa, pending(0, 1), at(1, 1), "abcd"},
		{0xa, at(1, 0), at(1, 0), "cd"},
		{0xa, pending(1, 1), at(1, 1), "cd"},
		{0xa, at(-5, 7), at(1, 1), "abcd"},
	} {
		p := pen(x.from)
		if !Do(p, x.r) || p.At != x.want || text(p) != x.text {
			t.Errorf("%x at %v: %v, %s", x.r, x.from, p.At, text(p))
		}
	}
}

// 36.1, 36.2: all others; nothing is done, the cursor isn't held either.
func TestOthers(t *testing.T) {
	numbers := []rune{math.MinInt32, -1, 0x2028, 0x200b, 0x10ffff, math.MaxInt32}
	for r := rune(0); r < 0x200; r++ {
		numbers = append(numbers, r)
	}
	for _, r := range numbers {
		if slices.Contains([]rune{0x8, 0xa, 0xd}, r) {
			continue
		}
		p := pen(pending(7, 7))
		want := r >= 0 && r < 0x20 || r > 0x7e && r < 0xa0
		if Do(p, r) != want || p.At != pending(7, 7) || text(p) != "abcd" {
			t.Errorf("%x: %v, %s", r, p.At, text(p))
		}
	}
}

// 36.1: pens that are nil, or have no grid.
func TestNone(t *testing.T) {
	p := &place.Pen{At: pending(1, 1)}
	for _, r := range []rune{0x8, 0xa, 0xd, 0x1b} {
		if !Do(nil, r) || !Do(p, r) || *p != (place.Pen{At: pending(1, 1)}) {
			t.Errorf("%x does something to nothing", r)
		}
	}
	if Do(nil, 0x61) || Do(p, 0x61) {
		t.Error("61 is silent")
	}
}
