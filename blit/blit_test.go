package blit

import (
	"math"
	"math/big"
	"math/rand"
	"slices"
	"strings"
	"testing"

	"linotype/api"
	"linotype/cell"
	"linotype/grid"
)

// lineOf is a line: a dot is a Blank, 0 a Lead of 4e00, = its Spacer; + at the end says that it goes on.
func lineOf(word string) api.Line {
	var l api.Line
	for _, r := range word {
		switch r {
		case '.':
			l.Cells = append(l.Cells, api.Cell{})
		case '0':
			l.Cells = append(l.Cells, api.Cell{Kind: api.Lead, Text: []rune{0x4e00}})
		case '=':
			l.Cells = append(l.Cells, api.Cell{Kind: api.Spacer})
		case '+':
			l.Wrap = true
		default:
			l.Cells = append(l.Cells, api.Cell{Kind: api.One, Text: []rune{r}})
		}
	}
	return l
}

func linesOf(words ...string) []api.Line {
	var l []api.Line
	for _, word := range words {
		l = append(l, lineOf(word))
	}
	return l
}

func gridOf(t *testing.T, words ...string) *grid.Grid {
	t.Helper()
	g, err := grid.Of(linesOf(words...)...)
	if err != nil {
		t.Fatal(err)
	}
	return g
}

func told(l []api.Line) string {
	var words []string
	for _, line := range l {
		s := ""
		for _, c := range line.Cells {
			switch c.Kind {
			case api.Blank:
				s += "."
			case api.Spacer:
				s += "="
			case api.Lead:
				s += "0"
			default:
				s += string(c.Text)
			}
		}
		if line.Wrap {
			s += "+"
		}
		words = append(words, s)
	}
	return strings.Join(words, "/")
}

// 59.1: the chapter's example, and others.
func TestTake(t *testing.T) {
	g := gridOf(t, "0=a+", "b0=+", "cde+")
	for _, x := range []struct {
		r    Rect
		want string
	}{
		{Rect{0, 1, 2, 1}, ".a"},
		{Rect{0, 0, 3, 3}, "0=a/b0=/cde"},
		{Rect{0, 0, 2, 2}, "0=/b."},
		{Rect{1, 2, 1, 2}, "./e"},
		{Rect{0, 0, 1, 1}, "."},
		{Rect{-1, -1, 3, 3}, "0=/b."},
		{Rect{2, 1, 99, 99}, "de"},
		{Rect{math.MinInt, math.MinInt, math.MaxInt, math.MaxInt}, ""},
		{Rect{-5, -5, math.MaxInt, math.MaxInt}, "0=a/b0=/cde"},
		{Rect{2, 2, math.MaxInt, math.MaxInt}, "e"},
		{Rect{0, 0, 0, 1}, ""}, {Rect{0, 0, 1, 0}, ""}, {Rect{0, 0, -3, 5}, ""}, {Rect{3, 0, 1, 1}, ""}, {Rect{0, 3, 1, 1}, ""}, {Rect{-1, 0, 1, 1}, ""}, {Rect{math.MaxInt, 0, math.MaxInt, 1}, ""}, {Rect{0, math.MinInt, math.MinInt, 1}, ""},
	} {
		if got := Take(g, x.r); told(got) != x.want {
			t.Errorf("%v: %s", x.r, told(got))
		}
	}
	Take(g, Rect{0, 0, 3, 1})[0].Cells[2].Text[0] = 'z'
	if told(g.Lines()) != "0=a+/b0=+/cde+" || len(Take(nil, Rect{0, 0, 1, 1})) > 0 {
		t.Error(told(g.Lines()))
	}
}

// 59.2: lines put in.
func TestPut(t *testing.T) {
	for _, x := range []struct {
		row, col int
		l        []string
		want     string
		painted  int
	}{
		{0, 0, []string{"xy"}, "xya+/b0=+/cde+", 1},
		{0, 1, []string{"x"}, ".xa+/b0=+/cde+", 1},
		{1, 0, []string{"0=+", "x"}, "0=a+/0=./xde+", 2},
		{0, 2, []string{"0=", "x", "y", "z"}, "0=./b.x/cdy", 3},
		{-1, 0, []string{"xyz", "xyz"}, "xyz/b0=+/cde+", 1},
		{0, -1, []string{"0=z"}, ".za+/b0=+/cde+", 1},
		{0, -1, []string{"wxyzv"}, "xyz/b0=+/cde+", 1},
		{2, 2, []string{"0="}, "0=a+/b0=+/cd.", 1},
		{0, 0, []string{"=", "", "0", "x"}, "0=a+/b0=+/cde+", 0},
		{0, 0, []string{"=x", "", "x0"}, "0=a+/b0=+/cde+", 0},
		{0, 0, []string{"=", "x"}, "0=a+/x0=+/cde+", 1},
		{0, 3, []string{"x"}, "0=a+/b0=+/cde+", 0},
		{0, -1, []string{"x"}, "0=a+/b0=+/cde+", 0},
		{3, 0, []string{"x"}, "0=a+/b0=+/cde+", 0},
		{math.MaxInt, 0, []string{"x", "x", "x"}, "0=a+/b0=+/cde+", 0},
		{0, math.MaxInt, []string{"x"}, "0=a+/b0=+/cde+", 0},
		{math.MinInt, math.MinInt, []string{"x", "x"}, "0=a+/b0=+/cde+", 0},
		{0, 0, nil, "0=a+/b0=+/cde+", 0},
	} {
		g := gridOf(t, "0=a+", "b0=+", "cde+")
		l := linesOf(x.l...)
		before := told(l)
		if got := Put(g, x.row, x.col, l...); got != x.painted || told(g.Lines()) != x.want || told(l) != before {
			t.Errorf("%q at %d, %d: %d, %s", x.l, x.row, x.col, got, told(g.Lines()))
		}
	}
	if Put(nil, 0, 0, linesOf("x")...) != 0 {
		t.Error("a nil grid is painted")
	}
	g, l := gridOf(t, "a"), linesOf("x")
	Put(g, 0, 0, l...)
	l[0].Cells[0].Text[0] = 'z'
	if told(g.Lines()) != "x" {
		t.Error(told(g.Lines()))
	}
}

// 59.2: copied as it was ahead, also within one grid.
func TestCopy(t *testing.T) {
	g := gridOf(t, "abcd", "efgh", "ijkl")
	if got := Copy(g, 1, 1, g, Rect{0, 0, 3, 2}); got != 2 || told(g.Lines()) != "abcd/eabc/iefg" {
		t.Error(got, told(g.Lines()))
	}
	to := grid.New(2, 2)
	if got := Copy(to, 0, 0, gridOf(t, "0=a"), Rect{0, 1, 9, 9}); got != 1 || told(to.Lines()) != ".a/.." {
		t.Error(got, told(to.Lines()))
	}
	if Copy(nil, 0, 0, g, Rect{0, 0, 1, 1}) != 0 || Copy(g, 0, 0, nil, Rect{0, 0, 1, 1}) != 0 {
		t.Error("something is copied of nothing")
	}
}

// 59.3: filled.
func TestFill(t *testing.T) {
	a, wide, blank := api.Item{Wide: 1, Text: []rune{'a'}}, api.Item{Wide: 2, Text: []rune{0x4e00}}, api.Item{Wide: 1}
	for _, x := range []struct {
		r       Rect
		x       api.Item
		want    string
		painted int
	}{
		{Rect{0, 0, 4, 2}, a, "aaaa/aaaa", 2},
		{Rect{0, 1, 3, 1}, wide, "w0=./0=yz+", 1},
		{Rect{1, 0, 1, 1}, wide, "wx0=+/..yz+", 1},
		{Rect{0, 3, 1, 2}, a, "wx.a/0=ya", 2},
		{Rect{0, 3, 9, 9}, wide, "wx../0=y.", 2},
		{Rect{-1, -1, 3, 2}, wide, "0=0=+/0=yz+", 1},
		{Rect{0, 0, 3, 1}, blank, "..../0=yz+", 1},
		{Rect{0, 0, math.MaxInt, math.MaxInt}, wide, "0=0=/0=0=", 2},
		{Rect{0, 0, 0, 5}, a, "wx0=+/0=yz+", 0},
		{Rect{2, 0, 5, 5}, a, "wx0=+/0=yz+", 0},
		{Rect{0, 0, 4, 2}, api.Item{Wide: 2}, "wx0=+/0=yz+", 0},
		{Rect{0, 0, 4, 2}, api.Item{Wide: 0, Text: []rune{'a'}}, "wx0=+/0=yz+", 0},
		{Rect{0, 0, 4, 2}, api.Item{Wide: 1, Text: []rune{-1}}, "wx0=+/0=yz+", 0},
	} {
		g := gridOf(t, "wx0=+", "0=yz+")
		if got := Fill(g, x.r, x.x); got != x.painted || told(g.Lines()) != x.want {
			t.Errorf("%v with %v: %d, %s", x.r, x.x, got, told(g.Lines()))
		}
	}
	if Fill(nil, Rect{0, 0, 1, 1}, a) != 0 {
		t.Error("a nil grid is filled")
	}
}

func someGrid(t *testing.T, rnd *rand.Rand) *grid.Grid {
	t.Helper()
	w := 1 + rnd.Intn(5)
	var l []api.Line
	for range 1 + rnd.Intn(4) {
		line := api.Line{Wrap: rnd.Intn(2) == 0}
		for len(line.Cells) < w {
			if c := cell.Of(1+rnd.Intn(2), slices.Repeat([]rune{rune(0x61 + rnd.Intn(26))}, rnd.Intn(2))...); len(line.Cells)+len(c) <= w {
				line.Cells = append(line.Cells, c...)
			}
		}
		l = append(l, line)
	}
	g, err := grid.Of(l...)
	if err != nil {
		t.Fatal(err)
	}
	return g
}

// far is a number near 0, or near an end of int.
func far(rnd *rand.Rand) int {
	n := rnd.Intn(9) - 3
	switch rnd.Intn(12) {
	case 0:
		return math.MaxInt - rnd.Intn(3)
	case 1:
		return math.MinInt + rnd.Intn(3)
	}
	return n
}

// inside: does a number lie from one on, so many, and in a grid's side? By whole numbers.
func inside(i, from, n int) bool {
	end := new(big.Int).Add(big.NewInt(int64(from)), big.NewInt(int64(n)))
	return i >= from && n > 0 && big.NewInt(int64(i)).Cmp(end) < 0
}

// 59.1, 59.4: any rectangles, cell by cell; what is taken and put back leaves all cells there that it has; rows are sound.
func TestAny(t *testing.T) {
	rnd := rand.New(rand.NewSource(59))
	for range 10000 {
		g := someGrid(t, rnd)
		r := Rect{far(rnd), far(rnd), far(rnd), far(rnd)}
		var rows, cols []int
		for i := range g.High() {
			if inside(i, r.Row, r.High) {
				rows = append(rows, i)
			}
		}
		for i := range g.Wide() {
			if inside(i, r.Col, r.Wide) {
				cols = append(cols, i)
			}
		}
		if len(cols) == 0 {
			rows = nil
		}
		l := Take(g, r)
		if len(l) != len(rows) {
			t.Fatalf("%v of %s: %s", r, told(g.Lines()), told(l))
		}
		for i, line := range l {
			if line.Wrap || len(line.Cells) != len(cols) || !cell.Sound(line.Cells...) {
				t.Fatalf("%v of %s: %s", r, told(g.Lines()), told(l))
			}
			for k, c := range line.Cells {
				want, _ := g.Row(rows[i]).Cell(cols[k])
				if c.Kind != want.Kind && !(c.Kind == api.Blank && (k == 0 && want.Kind == api.Spacer || k == len(cols)-1 && want.Kind == api.Lead)) || c.Kind == want.Kind && !slices.Equal(c.Text, want.Text) {
					t.Fatalf("%v of %s: %s", r, told(g.Lines()), told(l))
				}
			}
		}
		if len(l) == 0 {
			continue
		}
		other := g.Copy()
		if Fill(other, r, api.Item{Wide: 1 + rnd.Intn(2), Text: []rune{'z'}}) != len(rows) {
			t.Fatal(r)
		}
		for i := range other.High() {
			if !cell.Sound(other.Row(i).Cells()...) {
				t.Fatal(told(other.Lines()))
			}
		}
		if Put(other, rows[0], cols[0], l...) != len(rows) || told(Take(other, r)) != told(l) {
			t.Fatalf("%s put back: %s", told(l), told(other.Lines()))
		}
	}
}
