package scroll

import (
	"math"
	"math/rand"
	"slices"
	"testing"

	"linotype/api"
	"linotype/grid"
	"linotype/row"
)

// letters is a grid of one column, a row for each letter; those that are capital go on; a dot is a blank row.
func letters(t *testing.T, s string) *grid.Grid {
	t.Helper()
	var l []api.Line
	for _, r := range s {
		line := api.Line{Cells: []api.Cell{{Kind: api.One, Text: []rune{r | 0x20}}}, Wrap: r&0x20 == 0}
		if r == '.' {
			line = api.Line{Cells: []api.Cell{{}}}
		}
		l = append(l, line)
	}
	g, err := grid.Of(l...)
	if err != nil {
		t.Fatal(err)
	}
	return g
}

func told(g *grid.Grid) string {
	var s []rune
	for _, l := range g.Lines() {
		r := '.'
		if len(l.Cells[0].Text) > 0 {
			r = l.Cells[0].Text[0]
		}
		if l.Wrap {
			r &^= 0x20
		}
		s = append(s, r)
	}
	return string(s)
}

// 33.1, 33.2, 33.3: the chapter's examples, and edges.
func TestExamples(t *testing.T) {
	for _, x := range []struct {
		in          string
		from, to, n int
		up, down    string
	}{
		{"abc", 0, 3, 1, "bc.", ".ab"},
		{"abc", 1, 3, 1, "ac.", "a.b"},
		{"ABC", 1, 3, 1, "aC.", "a.b"},
		{"ABC", 0, 3, 1, "BC.", ".Ab"},
		{"ABCD", 1, 3, 1, "aC.D", "a.bD"},
		{"ABCD", 0, 2, 5, "..CD", "..CD"},
		{"ABCD", 2, 2, 1, "ABCD", "ABCD"},
		{"ABCD", 3, 1, 1, "ABCD", "ABCD"},
		{"ABCD", 0, 4, 0, "ABCD", "ABCD"},
		{"ABCD", 0, 4, math.MinInt, "ABCD", "ABCD"},
		{"ABCD", math.MinInt, math.MaxInt, math.MaxInt, "....", "...."},
		{"ABCD", 3, math.MaxInt, 1, "ABc.", "ABc."},
		{"ABCD", 4, 9, 1, "ABCD", "ABCD"},
		{"ABCD", -5, -1, 1, "ABCD", "ABCD"},
	} {
		g := letters(t, x.in)
		Up(g, x.from, x.to, x.n)
		if told(g) != x.up {
			t.Errorf("Up(%d, %d, %d) of %s: %s", x.from, x.to, x.n, x.in, told(g))
		}
		g = letters(t, x.in)
		Down(g, x.from, x.to, x.n)
		if told(g) != x.down {
			t.Errorf("Down(%d, %d, %d) of %s: %s", x.from, x.to, x.n, x.in, told(g))
		}
	}
	Up(nil, 0, 3, 1)
	Down(nil, 0, 3, 1)
}

// 33.1, 33.2, 33.4: rows are moved themselves; others stay; new ones are each another one.
func TestRows(t *testing.T) {
	rnd := rand.New(rand.NewSource(33))
	for range 2000 {
		h := 1 + rnd.Intn(6)
		g := grid.New(2, h)
		var old []*row.Row
		for i := range h {
			g.Row(i).GoOn(true)
			old = append(old, g.Row(i))
		}
		from, to := rnd.Intn(h), rnd.Intn(h+1)
		n := 1 + rnd.Intn(h+1)
		up := rnd.Intn(2) == 0
		if up {
			Up(g, from, to, n)
		} else {
			Down(g, from, to, n)
		}
		want := slices.Clone(old)
		if from < to {
			k := min(n, to-from)
			fresh := make([]*row.Row, k)
			if up {
				want = slices.Concat(old[:from], old[from+k:to], fresh, old[to:])
			} else {
				want = slices.Concat(old[:from], fresh, old[from:to-k], old[to:])
			}
		}
		for i := range h {
			r := g.Row(i)
			if want[i] != nil && r != want[i] || want[i] == nil && (slices.Contains(old, r) || r.Wrap() || r.Wide() != 2) {
				t.Fatalf("%d, %d, %d of %d, up %v: row %d", from, to, n, h, up, i)
			}
			if g.Row(i) == g.Row(i+1) {
				t.Fatalf("rows %d and %d are one", i, i+1)
			}
			goesOn := want[i] != nil && !(from < to && (i == from-1 || !up && i == to-1))
			if r.Wrap() != goesOn {
				t.Fatalf("%d, %d, %d of %d, up %v: row %d goes on: %v", from, to, n, h, up, i, r.Wrap())
			}
		}
	}
}
