package place

import (
	"math"
	"math/rand"
	"strings"
	"testing"

	"linotype/api"
	"linotype/cell"
	"linotype/cursor"
	"linotype/grid"
)

// told is what a pen's grid has: a letter of each One and Lead, a dot of each Blank, = of each Spacer, + behind a row that goes on, / between rows.
func told(p *Pen) string {
	var rows []string
	for _, l := range p.G.Lines() {
		var s []rune
		for _, c := range l.Cells {
			switch c.Kind {
			case api.Blank:
				s = append(s, '.')
			case api.Spacer:
				s = append(s, '=')
			default:
				s = append(s, c.Text...)
			}
		}
		if l.Wrap {
			s = append(s, '+')
		}
		rows = append(rows, string(s))
	}
	return strings.Join(rows, "/")
}

func at(row, col int) api.Cursor      { return api.Cursor{Row: row, Col: col} }
func pending(row, col int) api.Cursor { return api.Cursor{Row: row, Col: col, Pending: true} }

// 34.1: new pens.
func TestNew(t *testing.T) {
	p := New(3, 2)
	if told(p) != ".../..." || p.At != at(0, 0) || !p.Auto {
		t.Error(told(p), p.At, p.Auto)
	}
	if p = New(math.MinInt, math.MaxInt); p.G.Wide() != 1 || p.G.High() != 1024 {
		t.Error(p.G.Wide(), p.G.High())
	}
}

// 34.1: a new line, also at the last row, and from a cursor that is to be held.
func TestNewLine(t *testing.T) {
	p := New(2, 2)
	p.Put(1, 'a')
	p.Put(1, 'b')
	if p.At != pending(0, 1) {
		t.Error(p.At)
	}
	p.NewLine()
	if p.At != at(1, 1) || told(p) != "ab/.." {
		t.Error(p.At, told(p))
	}
	p.Put(1, 'c')
	p.NewLine()
	if p.At != at(1, 1) || told(p) != ".c/.." {
		t.Error(p.At, told(p))
	}
	p.At = api.Cursor{Row: -9, Col: 7, Pending: true}
	p.NewLine()
	if p.At != at(1, 1) || told(p) != ".c/.." {
		t.Error(p.At, told(p))
	}
}

// 34.2: the chapter's example.
func TestExample(t *testing.T) {
	p := New(3, 2)
	for _, x := range []struct {
		wide int
		r    rune
		want api.Cursor
	}{{1, 'a', at(0, 0)}, {1, 'b', at(0, 1)}, {2, '一', at(1, 0)}} {
		if got := p.Put(x.wide, x.r); got != x.want {
			t.Errorf("%c stands at %v", x.r, got)
		}
	}
	if told(p) != "ab.+/一=." || p.At != at(1, 2) {
		t.Error(told(p), p.At)
	}
}

// 34.2: rule by rule.
func TestPut(t *testing.T) {
	for _, x := range []struct {
		name    string
		w, h    int
		auto    bool
		from    api.Cursor
		wide    int
		text    string
		told    string
		put, is api.Cursor
	}{
		{"one column", 1, 2, true, at(0, 0), 2, "一b", "\ufffd/.", at(0, 0), pending(0, 0)},
		{"one column, pending", 1, 2, true, pending(0, 0), 2, "一", ".+/\ufffd", at(1, 0), pending(1, 0)},
		{"one column, no text", 1, 1, true, at(0, 0), 2, "", "\ufffd", at(0, 0), pending(0, 0)},
		{"one column, not auto", 1, 1, false, at(0, 0), 2, "一", "\ufffd", at(0, 0), at(0, 0)},
		{"pending", 2, 2, true, pending(0, 1), 1, "a", "..+/a.", at(1, 0), at(1, 1)},
		{"pending, not auto", 2, 2, false, pending(0, 1), 1, "a", "..+/a.", at(1, 0), at(1, 1)},
		{"pending at the last row", 2, 2, true, pending(1, 1), 2, "一", "..+/一=", at(1, 0), pending(1, 1)},
		{"wide at the last column", 3, 2, true, at(0, 2), 2, "一", "...+/一=.", at(1, 0), at(1, 2)},
		{"wide at the last column, not auto", 3, 2, false, at(0, 2), 2, "一", ".一=/...", at(0, 1), at(0, 2)},
		{"last column", 2, 1, true, at(0, 1), 1, "a", ".a", at(0, 1), pending(0, 1)},
		{"last column, not auto", 2, 1, false, at(0, 1), 1, "a", ".a", at(0, 1), at(0, 1)},
		{"wide to the last column", 2, 1, true, at(0, 0), 2, "一", "一=", at(0, 0), pending(0, 1)},
		{"no text", 3, 1, true, at(0, 0), 2, "", "...", at(0, 0), at(0, 2)},
		{"less wide", 3, 1, true, at(0, 0), math.MinInt, "a", "a..", at(0, 0), at(0, 1)},
		{"wider", 3, 1, true, at(0, 0), math.MaxInt, "a", "a=.", at(0, 0), at(0, 2)},
		{"held", 3, 2, true, pending(9, 9), 1, "a", ".../..a", at(1, 2), pending(1, 2)},
		{"held", 3, 2, true, at(-9, -9), 1, "a", "a../...", at(0, 0), at(0, 1)},
	} {
		p := New(x.w, x.h)
		p.At, p.Auto = x.from, x.auto
		got := p.Put(x.wide, []rune(x.text)...)
		if got != x.put || p.At != x.is || told(p) != x.told {
			t.Errorf("%s: %v, %v, %s", x.name, got, p.At, told(p))
		}
	}
}

// 34.2: the cell at the last column is painted with a blank, also over what stood there.
func TestMakeRoom(t *testing.T) {
	p := New(2, 2)
	p.Put(2, '一')
	p.At = at(0, 1)
	p.Put(2, '二')
	if told(p) != "..+/二=" {
		t.Error(told(p))
	}
	p = New(3, 1)
	p.Put(1, 'a')
	p.At = at(0, 2)
	if p.Put(2, '一') != at(0, 0) || told(p) != "一=." {
		t.Error(told(p))
	}
}

// 34.2: numbers that are none, and too many of them.
func TestText(t *testing.T) {
	p := New(2, 1)
	text := make([]rune, 20)
	text[0] = -1
	p.Put(1, text...)
	c, _ := p.G.Row(0).Cell(0)
	if len(c.Text) != 16 || c.Text[0] != 0xfffd || text[0] != -1 {
		t.Errorf("%x", c.Text)
	}
}

// 34.1, 34.2: pens that are nil, or have no grid.
func TestNone(t *testing.T) {
	var none *Pen
	none.NewLine()
	p := &Pen{At: pending(5, 5), Auto: true}
	p.NewLine()
	if none.Put(1, 'a') != (api.Cursor{}) || p.Put(2, 'a') != (api.Cursor{}) || *p != (Pen{At: pending(5, 5), Auto: true}) {
		t.Error("something is done")
	}
}

// 34.3: behind Put the cursor may be, all rows are sound, and the cluster stands where it is told.
func TestAny(t *testing.T) {
	rnd := rand.New(rand.NewSource(34))
	for range 300 {
		p := New(1+rnd.Intn(5), 1+rnd.Intn(4))
		for i := range 30 {
			if rnd.Intn(5) == 0 {
				p.At = api.Cursor{Row: rnd.Intn(7) - 1, Col: rnd.Intn(7) - 1, Pending: rnd.Intn(2) == 0}
				p.Auto = rnd.Intn(2) == 0
			}
			wide, r := 1+rnd.Intn(2), rune(0x61+i)
			put := p.Put(wide, r)
			if wide == 2 && p.G.Wide() == 1 {
				wide, r = 1, 0xfffd
			}
			for y, l := range p.G.Lines() {
				if !cell.Sound(l.Cells...) || len(l.Cells) != p.G.Wide() {
					t.Fatalf("row %d is %v", y, l.Cells)
				}
			}
			c, _ := p.G.Row(put.Row).Cell(put.Col)
			if !cursor.Right(p.At, p.G.Wide(), p.G.High()) || put.Pending || len(c.Text) != 1 || c.Text[0] != r || (c.Kind == api.Lead) != (wide == 2) {
				t.Fatalf("%x stands at %v, the cursor at %v: %s", r, put, p.At, told(p))
			}
		}
	}
}

// a pen made of a grid that stands already goes on in it
func TestGrid(t *testing.T) {
	g := grid.New(2, 1)
	p := &Pen{G: g}
	p.Put(1, 'a')
	if c, _ := g.Row(0).Cell(0); len(c.Text) != 1 {
		t.Error("the grid is another one")
	}
}
