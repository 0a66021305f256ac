package row

import (
	"math"
	"math/rand"
	"slices"
	"testing"

	"linotype/api"
	"linotype/cell"
)

func blank() api.Cell         { return api.Cell{} }
func spacer() api.Cell        { return api.Cell{Kind: api.Spacer} }
func one(l ...rune) api.Cell  { return api.Cell{Kind: api.One, Text: l} }
func lead(l ...rune) api.Cell { return api.Cell{Kind: api.Lead, Text: l} }

// someStrip is a sound strip of so many cells.
func someStrip(rnd *rand.Rand, n int) []api.Cell {
	var l []api.Cell
	for len(l) < n {
		switch k := rnd.Intn(4); {
		case k == 0:
			l = append(l, blank())
		case k == 1 || len(l)+1 == n:
			l = append(l, one(rune(0x61+rnd.Intn(26))))
		default:
			l = append(l, lead(rune(0x4e00+rnd.Intn(26))), spacer())
		}
	}
	return l
}

func rowOf(t *testing.T, wrap bool, l ...api.Cell) *Row {
	t.Helper()
	r, err := Of(l...)
	if err != nil {
		t.Fatal(err)
	}
	r.GoOn(wrap)
	return r
}

// 24.1: new rows of any width.
func TestNew(t *testing.T) {
	for w, want := range map[int]int{math.MinInt: 1, 0: 1, 1: 1, 80: 80, 1024: 1024, 1025: 1024, math.MaxInt: 1024} {
		r := New(w)
		if r.Wide() != want || r.Wrap() || !cell.Same(r.Cells(), cell.Blanks(want)) {
			t.Errorf("New(%d): %d wide", w, r.Wide())
		}
	}
}

// 24.1: rows of cells, and what is none.
func TestOf(t *testing.T) {
	for _, x := range []struct {
		l    []api.Cell
		code int
	}{
		{nil, 3}, {make([]api.Cell, 1025), 3}, {slices.Repeat([]api.Cell{spacer()}, 1025), 3}, {make([]api.Cell, 1024), 0},
		{[]api.Cell{spacer()}, 5}, {[]api.Cell{lead(0x61)}, 5}, {[]api.Cell{one()}, 5}, {[]api.Cell{lead(0x61), spacer()}, 0},
	} {
		r, err := Of(x.l...)
		if api.Code(err) != x.code || (r == nil) != (x.code > 0) || r != nil && (!cell.Same(r.Cells(), x.l) || r.Wrap()) {
			t.Errorf("%d cells: %v", len(x.l), err)
		}
	}
}

// 24.1: single cells; what is handed out is new.
func TestCells(t *testing.T) {
	in := []api.Cell{one(0x61), lead(0x62), spacer()}
	r := rowOf(t, false, in...)
	in[0].Text[0] = 0x7a
	for i, want := range []api.Cell{one(0x61), lead(0x62), spacer()} {
		c, ok := r.Cell(i)
		if !ok || !cell.Same([]api.Cell{c}, []api.Cell{want}) {
			t.Errorf("cell %d: %v", i, c)
		}
		clear(c.Text)
	}
	for _, i := range []int{-1, 3, math.MinInt, math.MaxInt} {
		if c, ok := r.Cell(i); ok || c.Kind != api.Blank || len(c.Text) > 0 {
			t.Errorf("cell %d: %v", i, c)
		}
	}
	l := r.Cells()
	l[0].Text[0] = 0x79
	l[1] = blank()
	if !cell.Same(r.Cells(), []api.Cell{one(0x61), lead(0x62), spacer()}) {
		t.Error(r.Cells())
	}
}

// 24.1: copies are rows of their own.
func TestCopy(t *testing.T) {
	r := rowOf(t, true, one(0x61), lead(0x62), spacer())
	c := r.Copy()
	if !c.Wrap() || !cell.Same(c.Cells(), r.Cells()) {
		t.Error("a copy is another one")
	}
	c.GoOn(false)
	if err := c.Paint(0, blank()); err != nil || !r.Wrap() || !cell.Same(r.Cells(), []api.Cell{one(0x61), lead(0x62), spacer()}) {
		t.Error("what is done to a copy is done to the row")
	}
}

// 24.1, 24.2: a nil row.
func TestNil(t *testing.T) {
	var r *Row
	r.GoOn(true)
	c, ok := r.Cell(0)
	if r.Wide() != 0 || ok || c.Kind != 0 || len(r.Cells()) > 0 || r.Wrap() || r.Copy() != nil {
		t.Error("a nil row has something")
	}
	if api.Code(r.Paint(0)) != 3 || api.Code(r.Paint(0, one())) != 3 {
		t.Error("a nil row is painted")
	}
}

// 24.2: what can't be painted changes nothing.
func TestPaintWrong(t *testing.T) {
	for _, x := range []struct {
		at   int
		l    []api.Cell
		code int
	}{
		{-1, nil, 3}, {4, nil, 3}, {math.MinInt, []api.Cell{blank()}, 3}, {math.MaxInt, []api.Cell{blank()}, 3},
		{3, []api.Cell{blank()}, 3}, {2, []api.Cell{blank(), blank()}, 3}, {2, []api.Cell{one(), one()}, 3}, {0, make([]api.Cell, 4), 3},
		{0, []api.Cell{spacer()}, 5}, {0, []api.Cell{lead(0x61)}, 5}, {2, []api.Cell{one(0xd800)}, 5},
		{0, nil, 0}, {1, nil, 0}, {2, nil, 0}, {3, nil, 0},
	} {
		r := rowOf(t, true, lead(0x61), spacer(), one(0x62))
		if err := r.Paint(x.at, x.l...); api.Code(err) != x.code || !r.Wrap() || !cell.Same(r.Cells(), []api.Cell{lead(0x61), spacer(), one(0x62)}) {
			t.Errorf("Paint(%d, %v): %v, %v", x.at, x.l, err, r.Cells())
		}
	}
}

// 24.2: the chapter's example; a painted cell is new memory.
func TestPaintExample(t *testing.T) {
	r := rowOf(t, true, lead(0x61), spacer(), one(0x62))
	x := one(0x7a)
	if err := r.Paint(1, x); err != nil {
		t.Error(err)
	}
	x.Text[0] = 0x79
	if !cell.Same(r.Cells(), []api.Cell{blank(), one(0x7a), one(0x62)}) || !r.Wrap() {
		t.Error(r.Cells(), r.Wrap())
	}
}

// 24.2, 24.3: any cells, anywhere, by the chapter's words.
func TestPaint(t *testing.T) {
	rnd := rand.New(rand.NewSource(24))
	for range 20000 {
		w := 1 + rnd.Intn(7)
		old := someStrip(rnd, w)
		r := rowOf(t, true, old...)
		at := rnd.Intn(w)
		l := someStrip(rnd, 1+rnd.Intn(w-at))
		want := slices.Clone(old)
		copy(want[at:], l)
		end := at + len(l)
		wrap := end < w
		if at > 0 && old[at-1].Kind == api.Lead {
			want[at-1] = blank()
		}
		if end < w && old[end].Kind == api.Spacer {
			want[end] = blank()
			wrap = end+1 < w
		}
		if err := r.Paint(at, l...); err != nil || !cell.Same(r.Cells(), want) || r.Wrap() != wrap {
			t.Fatalf("%v painted at %d with %v: %v, %v, %v", old, at, l, r.Cells(), r.Wrap(), err)
		}
		if !cell.Sound(r.Cells()...) {
			t.Fatalf("%v painted at %d with %v: %v", old, at, l, r.Cells())
		}
	}
}
