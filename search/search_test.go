package search

import (
	"math"
	"math/rand"
	"slices"
	"testing"

	"linotype/api"
	"linotype/cell"
)

// viewOf has a line for each word: a dot is a Blank, 0 a Lead of 4e00, = its Spacer; a tick joins the letter ahead as 301; + at the end says that it goes on.
func viewOf(words ...string) api.View {
	v := api.View{High: len(words)}
	for _, word := range words {
		var l api.Line
		for _, r := range word {
			switch r {
			case '.':
				l.Cells = append(l.Cells, api.Cell{})
			case '0':
				l.Cells = append(l.Cells, api.Cell{Kind: api.Lead, Text: []rune{0x4e00}})
			case '=':
				l.Cells = append(l.Cells, api.Cell{Kind: api.Spacer})
			case '+':
				l.Wrap = true
			case '\'':
				c := &l.Cells[len(l.Cells)-1]
				c.Text = append(c.Text, 0x301)
			default:
				l.Cells = append(l.Cells, api.Cell{Kind: api.One, Text: []rune{r}})
			}
		}
		v.Wide = len(l.Cells)
		v.Lines = append(v.Lines, l)
	}
	return v
}

// 53.1: where texts stand.
func TestAll(t *testing.T) {
	for _, x := range []struct {
		v    api.View
		text []rune
		want []Hit
	}{
		{viewOf("ab+", "c."), []rune("bc"), []Hit{{0, 1, 2}}},
		{viewOf("ab", "c."), []rune("bc"), nil},
		{viewOf("a.+", "c."), []rune("ac"), []Hit{{0, 0, 2}}},
		{viewOf("a..+", "c.."), []rune("ac"), nil},
		{viewOf("a.+", ".c"), []rune("ac"), nil},
		{viewOf("a.b"), []rune("ab"), nil},
		{viewOf("aaaa"), []rune("aa"), []Hit{{0, 0, 2}, {0, 1, 2}, {0, 2, 2}}},
		{viewOf("a'ab"), []rune("a"), []Hit{{0, 1, 1}}},
		{viewOf("a'ab"), []rune{'a', 0x301}, []Hit{{0, 0, 1}}},
		{viewOf("a'ab"), []rune{0x301, 'a'}, nil},
		{viewOf("0=a0=+", "0=.a."), []rune{0x4e00}, []Hit{{0, 0, 1}, {0, 3, 1}, {1, 0, 1}}},
		{viewOf("0=a0=+", "0=.a."), []rune{0x4e00, 0x4e00}, []Hit{{0, 3, 2}}},
		{viewOf("a.+", "b.+"), []rune("ab"), []Hit{{0, 0, 2}}},
		{viewOf(".+", "a+", ".+", "b"), []rune("ab"), []Hit{{1, 0, 2}}},
		{viewOf("ab"), nil, nil},
		{viewOf(".."), []rune{0x20}, nil},
		{viewOf("a"), []rune{-1}, nil},
		{viewOf("a"), []rune("aa"), nil},
		{viewOf("a="), []rune("a"), nil},
		{api.View{}, []rune("a"), nil},
	} {
		if got := All(x.v, x.text...); !slices.Equal(got, x.want) {
			t.Errorf("%x on %v: %v", x.text, x.v.Lines, got)
		}
	}
}

// 53.2: the first one from a place on.
func TestNext(t *testing.T) {
	v := viewOf("aba", "aab")
	for _, x := range []struct {
		row, col int
		want     Hit
		ok       bool
	}{
		{0, 0, Hit{0, 0, 1}, true}, {0, 1, Hit{0, 2, 1}, true}, {0, 3, Hit{1, 0, 1}, true}, {0, math.MaxInt, Hit{1, 0, 1}, true},
		{1, 1, Hit{1, 1, 1}, true}, {1, 2, Hit{}, false}, {math.MaxInt, math.MinInt, Hit{}, false}, {math.MinInt, math.MaxInt, Hit{0, 0, 1}, true}, {-1, -1, Hit{0, 0, 1}, true}, {1, math.MinInt, Hit{1, 0, 1}, true},
	} {
		if got, ok := Next(v, x.row, x.col, 'a'); got != x.want || ok != x.ok {
			t.Errorf("from %d, %d: %v, %v", x.row, x.col, got, ok)
		}
	}
	if got, ok := Next(v, 0, 0); ok || got != (Hit{}) {
		t.Error(got)
	}
	if got, ok := Next(api.View{}, 0, 0, 'a'); ok || got != (Hit{}) {
		t.Error(got)
	}
}

// 53.1, 53.3: any views, read cluster by cluster.
func TestAny(t *testing.T) {
	rnd := rand.New(rand.NewSource(53))
	for range 3000 {
		w := 1 + rnd.Intn(4)
		v := api.View{Wide: w, High: 1 + rnd.Intn(3)}
		for range v.High {
			l := api.Line{Wrap: rnd.Intn(2) == 0}
			for len(l.Cells) < w {
				if c := cell.Of(1+rnd.Intn(2), slices.Repeat([]rune{rune(0x61 + rnd.Intn(2))}, rnd.Intn(3))...); len(l.Cells)+len(c) <= w {
					l.Cells = append(l.Cells, c...)
				}
			}
			v.Lines = append(v.Lines, l)
		}
		text := make([]rune, 1+rnd.Intn(3))
		for i := range text {
			text[i] = rune(0x61 + rnd.Intn(2))
		}
		var want []Hit
		for row, l := range v.Lines {
			for col, c := range l.Cells {
				if n := standing(v, row, col, text); len(c.Text) > 0 && n > 0 {
					want = append(want, Hit{row, col, n})
				}
			}
		}
		if got := All(v, text...); !slices.Equal(got, want) {
			t.Fatalf("%s on %v: %v, not %v", string(text), v.Lines, got, want)
		}
	}
}

// standing goes from cell to cell, and counts the clusters of a text.
func standing(v api.View, row, col int, text []rune) int {
	n := 0
	for len(text) > 0 {
		if col == v.Wide {
			if !v.Lines[row].Wrap || row+1 == v.High {
				return 0
			}
			row, col = row+1, 0
			continue
		}
		c := v.Lines[row].Cells[col]
		passed := c.Kind == api.Spacer || c.Kind == api.Blank && col == v.Wide-1 && v.Lines[row].Wrap
		switch k := len(c.Text); {
		case passed:
		case k == 0 || k > len(text) || !slices.Equal(c.Text, text[:k]):
			return 0
		default:
			text = text[k:]
			n++
		}
		col++
	}
	return n
}
