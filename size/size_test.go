package size

import (
	"math"
	"math/rand"
	"strings"
	"testing"

	"linotype/api"
	"linotype/cell"
	"linotype/cursor"
	"linotype/place"
)

// pen has a row for each word; 0 stands for 4e00, 2 wide, = behind it for its Spacer; all rows go on.
func pen(t *testing.T, c api.Cursor, words ...string) *place.Pen {
	t.Helper()
	p := place.New(len(words[0]), len(words))
	for i, word := range words {
		for col, r := range word {
			var err error
			switch r {
			case '0':
				err = p.G.Row(i).Paint(col, cell.Of(2, 0x4e00)...)
			case '=', '.':
			default:
				err = p.G.Row(i).Paint(col, cell.Of(1, r)...)
			}
			if err != nil {
				t.Fatal(err)
			}
		}
		p.G.Row(i).GoOn(true)
	}
	p.At = c
	return p
}

func told(p *place.Pen) string {
	var rows []string
	for _, l := range p.G.Lines() {
		s := ""
		for _, c := range l.Cells {
			switch c.Kind {
			case api.Blank:
				s += "."
			case api.Spacer:
				s += "="
			case api.Lead:
				s += "0"
			default:
				s += string(c.Text)
			}
		}
		if l.Wrap {
			s += "+"
		}
		rows = append(rows, s)
	}
	return strings.Join(rows, "/")
}

func at(row, col int) api.Cursor { return api.Cursor{Row: row, Col: col} }

// 39.1: the chapter's example, and others.
func TestResize(t *testing.T) {
	for _, x := range []struct {
		from  api.Cursor
		words []string
		w, h  int
		want  string
		at    api.Cursor
	}{
		{at(2, 0), []string{"a", "b", "c"}, 1, 2, "b/c", at(1, 0)},
		{at(1, 0), []string{"a", "b", "c"}, 1, 2, "a/b", at(1, 0)},
		{at(0, 0), []string{"a", "b", "c"}, 1, 2, "a/b", at(0, 0)},
		{at(1, 0), []string{"a", "b", "c"}, 1, 1, "b", at(0, 0)},
		{at(2, 0), []string{"a", "b", "c"}, 1, 0, "c", at(0, 0)},
		{at(1, 0), []string{"a", "b", "c"}, 2, 4, "a./b./c./..", at(1, 0)},
		{at(1, 2), []string{"a0=", "0=b"}, 2, 2, "a./0=", at(1, 1)},
		{at(0, 2), []string{"a0=", "0=b"}, 1, 2, "a/.", at(0, 0)},
		{at(0, 2), []string{"a0=", "0=b"}, math.MinInt, math.MinInt, "a", at(0, 0)},
		{api.Cursor{Row: 1, Col: 2, Pending: true}, []string{"a0=", "0=b"}, 3, 2, "a0=/0=b", at(1, 2)},
		{api.Cursor{Row: 1, Col: 2, Pending: true}, []string{"a0=", "0=b"}, 4, 1, "0=b.", at(0, 2)},
		{at(99, 99), []string{"ab", "cd"}, 2, 1, "cd", at(0, 1)},
		{at(-99, -99), []string{"ab", "cd"}, 2, 1, "ab", at(0, 0)},
	} {
		p := pen(t, x.from, x.words...)
		old := p.G
		before := told(p)
		Resize(p, x.w, x.h)
		if told(p) != x.want || p.At != x.at || !p.Auto {
			t.Errorf("%v at %v to %d, %d: %s at %v", x.words, x.from, x.w, x.h, told(p), p.At)
		}
		if p.G == old || told(&place.Pen{G: old}) != before {
			t.Errorf("%v to %d, %d: the grid is not a new one", x.words, x.w, x.h)
		}
	}
}

// 39.1: the greatest sides, and what is nil.
func TestEdges(t *testing.T) {
	p := place.New(2, 2)
	p.Auto = false
	Resize(p, math.MaxInt, math.MaxInt)
	if p.G.Wide() != 1024 || p.G.High() != 1024 || p.Auto {
		t.Error(p.G.Wide(), p.G.High(), p.Auto)
	}
	Resize(nil, 2, 2)
	none := &place.Pen{At: at(5, 5)}
	Resize(none, 2, 2)
	if *none != (place.Pen{At: at(5, 5)}) {
		t.Error("something is done to nothing")
	}
}

// 39.2: to the same size, to a greater one, to any.
func TestAny(t *testing.T) {
	rnd := rand.New(rand.NewSource(39))
	for range 2000 {
		p := place.New(1+rnd.Intn(5), 1+rnd.Intn(5))
		for range rnd.Intn(20) {
			p.Put(1+rnd.Intn(2), rune(0x61+rnd.Intn(26)))
		}
		before, c := p.G.Lines(), p.At
		w, h := p.G.Wide()+rnd.Intn(2), p.G.High()+rnd.Intn(2)
		Resize(p, w, h)
		for i, l := range before {
			cells, _ := p.G.Lines()[i], l.Wrap
			if !cell.Same(cells.Cells[:len(l.Cells)], l.Cells) || cells.Wrap {
				t.Fatalf("line %d of %v is %v", i, before, cells)
			}
		}
		if p.At != at(c.Row, c.Col) {
			t.Fatalf("the cursor goes from %v to %v", c, p.At)
		}
		Resize(p, 1+rnd.Intn(6), 1+rnd.Intn(6))
		for _, l := range p.G.Lines() {
			if !cell.Sound(l.Cells...) || len(l.Cells) != p.G.Wide() || l.Wrap {
				t.Fatalf("%v", l)
			}
		}
		if !cursor.Right(p.At, p.G.Wide(), p.G.High()) {
			t.Fatal(p.At)
		}
	}
}
