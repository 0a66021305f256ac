package region

import (
	"math"
	"math/rand"
	"slices"
	"testing"

	"linotype/api"
	"linotype/cell"
)

func blankCell() api.Cell     { return api.Cell{} }
func spacer() api.Cell        { return api.Cell{Kind: api.Spacer} }
func one(l ...rune) api.Cell  { return api.Cell{Kind: api.One, Text: l} }
func lead(l ...rune) api.Cell { return api.Cell{Kind: api.Lead, Text: l} }

// viewOf has a line for each word: a dot is a Blank, 0 a Lead of 4e00, = its Spacer; + at the end says that it goes on.
func viewOf(words ...string) api.View {
	v := api.View{High: len(words)}
	for _, word := range words {
		var l api.Line
		for _, r := range word {
			switch r {
			case '.':
				l.Cells = append(l.Cells, blankCell())
			case '0':
				l.Cells = append(l.Cells, lead(0x4e00))
			case '=':
				l.Cells = append(l.Cells, spacer())
			case '+':
				l.Wrap = true
			default:
				l.Cells = append(l.Cells, one(r))
			}
		}
		v.Wide = len(l.Cells)
		v.Lines = append(v.Lines, l)
	}
	return v
}

// told is a text with 0 for 4e00, a dot for a blank and / for a line feed.
func told(l []rune) string {
	out := make([]rune, len(l))
	for i, r := range l {
		switch r {
		case 0x4e00:
			r = '0'
		case 0x20:
			r = '.'
		case 0xa:
			r = '/'
		}
		out[i] = r
	}
	return string(out)
}

// 52.1: marked texts.
func TestText(t *testing.T) {
	for _, x := range []struct {
		v    api.View
		a, b Place
		want string
	}{
		{viewOf("ab", "c "), Place{0, 1}, Place{1, 0}, "b/c"},
		{viewOf("ab", "c "), Place{0, 1}, Place{1, 1}, "b/c."},
		{viewOf("ab+", "c."), Place{0, 1}, Place{1, 1}, "bc."},
		{viewOf("a.+", "c."), Place{0, 0}, Place{1, 0}, "ac"},
		{viewOf("a..+", "c.."), Place{0, 0}, Place{1, 0}, "a.c"},
		{viewOf("a..", "c.."), Place{0, 0}, Place{1, 0}, "a/c"},
		{viewOf("a..", "..."), Place{0, 1}, Place{1, 1}, "/.."},
		{viewOf("a..+", "..."), Place{0, 2}, Place{1, 0}, "."},
		{viewOf("abc", ".d.", "efg"), Place{0, 2}, Place{2, 0}, "c/.d/e"},
		{viewOf("a0=b"), Place{0, 2}, Place{0, 2}, "0"},
		{viewOf("a0=b"), Place{0, 0}, Place{0, 1}, "a0"},
		{viewOf("a0=b"), Place{0, 2}, Place{0, 3}, "0b"},
		{viewOf("a0=b"), Place{0, 1}, Place{0, 1}, "0"},
		{viewOf("a0=", "0=b"), Place{0, 2}, Place{1, 0}, "0/0"},
		{viewOf("a.b."), Place{0, 0}, Place{0, 3}, "a.b."},
		{viewOf("ab", "cd"), Place{math.MinInt, math.MinInt}, Place{math.MaxInt, math.MaxInt}, "ab/cd"},
		{viewOf("ab", "cd"), Place{-1, 1}, Place{9, 0}, "b/c"},
	} {
		if got := told(Text(x.v, x.a, x.b)); got != x.want {
			t.Errorf("%v from %v to %v: %s", x.v.Lines, x.a, x.b, got)
		}
		if got := told(Text(x.v, x.b, x.a)); got != x.want {
			t.Errorf("%v from %v to %v: %s", x.v.Lines, x.b, x.a, got)
		}
	}
}

// 52.2: rectangles.
func TestBox(t *testing.T) {
	v := viewOf("abc.", "0=0=", "....", "a0=b")
	for _, x := range []struct {
		a, b Place
		want []string
	}{
		{Place{0, 0}, Place{3, 3}, []string{"abc", "00", "", "a0b"}},
		{Place{0, 1}, Place{1, 1}, []string{"b", "0"}},
		{Place{3, 2}, Place{0, 1}, []string{"bc", "00", "", "0"}},
		{Place{0, 3}, Place{0, 3}, []string{""}},
		{Place{1, 2}, Place{0, 3}, []string{"c", "0"}},
		{Place{9, 9}, Place{-9, -9}, []string{"abc", "00", "", "a0b"}},
	} {
		var got []string
		for _, l := range Box(v, x.a, x.b) {
			got = append(got, told(l))
		}
		if !slices.Equal(got, x.want) {
			t.Errorf("%v to %v: %q", x.a, x.b, got)
		}
	}
	if got := Box(viewOf(".a."), Place{0, 0}, Place{0, 2}); told(got[0]) != ".a" {
		t.Errorf("%x", got)
	}
}

// 52.3: words.
func TestWord(t *testing.T) {
	v := viewOf("ab.0=c d", "........")
	for _, x := range []struct {
		at       Place
		from, to int
	}{
		{Place{0, 0}, 0, 2}, {Place{0, 1}, 0, 2}, {Place{0, 2}, 0, 0}, {Place{0, 3}, 3, 6}, {Place{0, 4}, 3, 6}, {Place{0, 6}, 0, 0}, {Place{0, 7}, 7, 8},
		{Place{1, 3}, 0, 0}, {Place{-5, 99}, 7, 8}, {Place{math.MinInt, math.MinInt}, 0, 2},
	} {
		if from, to := Word(v, x.at); from != x.from || to != x.to {
			t.Errorf("%v: %d, %d", x.at, from, to)
		}
	}
	if from, to := Word(viewOf("abc"), Place{0, 1}); from != 0 || to != 3 {
		t.Error(from, to)
	}
	wide := api.View{Wide: 3, High: 1, Lines: []api.Line{{Cells: []api.Cell{lead(0x20), spacer(), one(0x20, 0x301)}}}}
	if from, to := Word(wide, Place{0, 0}); from != 0 || to != 0 {
		t.Error(from, to)
	}
	if from, to := Word(wide, Place{0, 2}); from != 1 || to != 3 {
		t.Error(from, to)
	}
}

// 52.3: views that are not sound.
func TestNotSound(t *testing.T) {
	for _, v := range []api.View{{}, viewOf("a="), viewOf("ab", "c"), {Wide: 1, High: 1, Lines: []api.Line{{Cells: cell.Blanks(1)}}, At: api.Cursor{Row: 1}}} {
		from, to := Word(v, Place{0, 0})
		if len(Text(v, Place{0, 0}, Place{0, 0})) > 0 || len(Box(v, Place{0, 0}, Place{0, 0})) > 0 || from != 0 || to != 0 {
			t.Errorf("%v has a text", v)
		}
	}
	v := viewOf("a")
	Text(v, Place{}, Place{})[0] = 0x7a
	Box(v, Place{}, Place{})[0][0] = 0x7a
	if v.Lines[0].Cells[0].Text[0] != 'a' {
		t.Error("texts share memory with cells")
	}
}

// 52.1, 52.4: any places, cell by cell; which one is named first has no influence.
func TestAny(t *testing.T) {
	rnd := rand.New(rand.NewSource(52))
	for range 3000 {
		w := 1 + rnd.Intn(4)
		v := api.View{Wide: w, High: 1 + rnd.Intn(3)}
		for range v.High {
			l := api.Line{Wrap: rnd.Intn(2) == 0}
			for len(l.Cells) < w {
				if c := cell.Of(1+rnd.Intn(2), slices.Repeat([]rune{rune(0x61 + rnd.Intn(26))}, rnd.Intn(2))...); len(l.Cells)+len(c) <= w {
					l.Cells = append(l.Cells, c...)
				}
			}
			v.Lines = append(v.Lines, l)
		}
		a, b := Place{rnd.Intn(v.High), rnd.Intn(w)}, Place{rnd.Intn(v.High), rnd.Intn(w)}
		if !slices.Equal(Text(v, a, b), Text(v, b, a)) {
			t.Fatalf("%v, %v, %v", v, a, b)
		}
		if a.Row > b.Row || a.Row == b.Row && a.Col > b.Col {
			a, b = b, a
		}
		var want []rune
		for row := a.Row; row <= b.Row; row++ {
			l := v.Lines[row]
			used := w
			for row < b.Row && used > 0 && l.Cells[used-1].Kind == api.Blank {
				used--
				if l.Wrap {
					break
				}
			}
			for col, c := range l.Cells {
				after := row > a.Row || col >= a.Col || c.Kind == api.Lead && col+1 >= a.Col
				if !after || row == b.Row && col > b.Col || col >= used {
					continue
				}
				if c.Kind == api.Blank {
					want = append(want, 0x20)
				}
				want = append(want, c.Text...)
			}
			if row < b.Row && !l.Wrap {
				want = append(want, 0xa)
			}
		}
		if got := Text(v, a, b); !slices.Equal(got, want) {
			t.Fatalf("%v from %v to %v: %x, not %x", v.Lines, a, b, got, want)
		}
	}
}
