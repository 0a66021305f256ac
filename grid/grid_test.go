package grid

import (
	"math"
	"slices"
	"testing"

	"linotype/api"
	"linotype/cell"
	"linotype/row"
)

func blank() api.Cell         { return api.Cell{} }
func spacer() api.Cell        { return api.Cell{Kind: api.Spacer} }
func one(l ...rune) api.Cell  { return api.Cell{Kind: api.One, Text: l} }
func lead(l ...rune) api.Cell { return api.Cell{Kind: api.Lead, Text: l} }

func line(wrap bool, l ...api.Cell) api.Line { return api.Line{Cells: l, Wrap: wrap} }

func same(a, b []api.Line) bool {
	return slices.EqualFunc(a, b, func(x, y api.Line) bool { return x.Wrap == y.Wrap && cell.Same(x.Cells, y.Cells) })
}

func sample() []api.Line {
	return []api.Line{line(true, one(0x61), blank()), line(false, lead(0x4e00), spacer()), line(true, blank(), one(0x62))}
}

func gridOf(t *testing.T, l ...api.Line) *Grid {
	t.Helper()
	g, err := Of(l...)
	if err != nil {
		t.Fatal(err)
	}
	return g
}

// 32.1: new grids of any sides.
func TestNew(t *testing.T) {
	for _, x := range []struct{ w, h, wide, high int }{
		{2, 0, 2, 1}, {0, 2, 1, 2}, {80, 24, 80, 24}, {math.MinInt, math.MaxInt, 1, 1024}, {1025, 1, 1024, 1},
	} {
		g := New(x.w, x.h)
		if g.Wide() != x.wide || g.High() != x.high {
			t.Errorf("New(%d, %d): %d, %d", x.w, x.h, g.Wide(), g.High())
		}
		for i, l := range g.Lines() {
			if l.Wrap || !cell.Same(l.Cells, cell.Blanks(x.wide)) {
				t.Errorf("New(%d, %d): line %d", x.w, x.h, i)
			}
		}
	}
	g := New(2, 2)
	if err := g.Row(0).Paint(0, one(0x61)); err != nil || !cell.Same(g.Row(1).Cells(), cell.Blanks(2)) {
		t.Error("two rows are one")
	}
}

// 32.1: grids of lines, and back.
func TestOf(t *testing.T) {
	in := sample()
	g := gridOf(t, in...)
	in[0].Cells[0].Text[0] = 0x7a
	if !same(g.Lines(), sample()) || g.Wide() != 2 || g.High() != 3 {
		t.Error(g.Lines())
	}
	out := g.Lines()
	out[0].Cells[0].Text[0] = 0x7a
	out[1].Wrap = true
	if !same(g.Lines(), sample()) {
		t.Error("what is handed out is the grid's")
	}
}

// 32.1: lines that are no grid.
func TestOfWrong(t *testing.T) {
	good := line(false, one(0x61))
	for _, x := range []struct {
		l        []api.Line
		code, at int
	}{
		{nil, 3, -1},
		{slices.Repeat([]api.Line{good}, 1025), 3, -1},
		{slices.Repeat([]api.Line{{}}, 1025), 3, -1},
		{[]api.Line{{}}, 3, 0},
		{[]api.Line{good, {}}, 3, 1},
		{[]api.Line{good, line(false, blank(), blank())}, 3, 1},
		{[]api.Line{good, line(false, lead(0x61), one())}, 5, 1},
		{[]api.Line{good, good, line(true, spacer()), {}}, 5, 2},
		{[]api.Line{line(false, make([]api.Cell, 1025)...)}, 3, 0},
	} {
		g, err := Of(x.l...)
		if g != nil || api.Code(err) != x.code || api.At(err) != x.at || api.Within(err) != -1 {
			t.Errorf("%d lines: %v at %d", len(x.l), err, api.At(err))
		}
	}
	if g := gridOf(t, slices.Repeat([]api.Line{good}, 1024)...); g.High() != 1024 {
		t.Error(g.High())
	}
}

// 32.2: rows themselves.
func TestRowAndSet(t *testing.T) {
	g := gridOf(t, sample()...)
	for _, i := range []int{math.MinInt, -1, 3, math.MaxInt} {
		if g.Row(i) != nil || g.Set(i, row.New(2)) {
			t.Errorf("there is a row %d", i)
		}
	}
	if g.Set(0, nil) || g.Set(0, row.New(1)) || g.Set(0, row.New(3)) || !same(g.Lines(), sample()) {
		t.Error("a row is set that may not be")
	}
	r := row.New(2)
	first := row.New(2)
	if !g.Set(0, first) || g.Row(0) != first || !g.Set(1, r) || g.Row(1) != r {
		t.Error("a row is not set")
	}
	if err := r.Paint(0, lead(0x63), spacer()); err != nil {
		t.Error(err)
	}
	r.GoOn(true)
	if l := g.Lines()[1]; !l.Wrap || !cell.Same(l.Cells, []api.Cell{lead(0x63), spacer()}) {
		t.Error(l)
	}
}

// 32.2, 32.3: copies.
func TestCopy(t *testing.T) {
	g := gridOf(t, sample()...)
	c := g.Copy()
	if !same(c.Lines(), sample()) || c.Wide() != 2 || c.Row(0) == g.Row(0) {
		t.Error(c.Lines())
	}
	if err := c.Row(0).Paint(0, one(0x7a), one(0x7a)); err != nil || !c.Set(1, row.New(2)) || !same(g.Lines(), sample()) {
		t.Error(g.Lines())
	}
}

// 32.2: a nil grid.
func TestNil(t *testing.T) {
	var g *Grid
	if g.Wide() != 0 || g.High() != 0 || g.Row(0) != nil || g.Set(0, row.New(1)) || len(g.Lines()) > 0 || g.Copy() != nil {
		t.Error("a nil grid has something")
	}
}
