package edit

import (
	"math"
	"math/rand"
	"slices"
	"strings"
	"testing"

	"linotype/api"
	"linotype/cell"
	"linotype/cursor"
	"linotype/place"
)

func at(row, col int) api.Cursor { return api.Cursor{Row: row, Col: col} }

// pen is 4 columns and 3 rows: abcd+/一=ef/ghij+ at a cursor.
func pen(c api.Cursor) *place.Pen {
	p := place.New(4, 3)
	for _, r := range "abcd一efghij" {
		wide := 1
		if r > 0xff {
			wide = 2
		}
		p.Put(wide, r)
	}
	p.G.Row(1).GoOn(false)
	p.G.Row(2).GoOn(true)
	p.At = c
	return p
}

func told(p *place.Pen) string {
	var rows []string
	for _, l := range p.G.Lines() {
		var s []rune
		for _, c := range l.Cells {
			switch c.Kind {
			case api.Blank:
				s = append(s, '.')
			case api.Spacer:
				s = append(s, '=')
			default:
				s = append(s, c.Text...)
			}
		}
		if l.Wrap {
			s = append(s, '+')
		}
		rows = append(rows, string(s))
	}
	return strings.Join(rows, "/")
}

// 38.1: which kinds are edits', and what is wrong.
func TestWrong(t *testing.T) {
	edits := []int{api.Move, api.EraseLine, api.EraseScreen, api.EraseCells, api.InsertCells, api.DeleteCells, api.InsertLines, api.DeleteLines, api.ScrollUp, api.ScrollDown, api.Autowrap}
	for _, kind := range []int{math.MinInt, -1, api.Feed, api.Flush, 2, 3, 4, 5, 6, 7, 8, 9, 10, 11, 12, api.Resize, 14, math.MaxInt} {
		for _, a := range []int{math.MinInt, -1, 0, 1, 2, 3, math.MaxInt} {
			want := 0
			switch {
			case !slices.Contains(edits, kind):
				want = 5
			case (kind == api.EraseLine || kind == api.EraseScreen) && (a < 0 || a > 2):
				want = 3
			}
			o := api.Op{Kind: kind, A: a, B: -7, Bytes: []byte{0x61}}
			if Does(kind) != (want != 5) || api.Code(Wrong(o)) != want || api.At(Wrong(o)) != -1 {
				t.Errorf("%d, %d: %v, %v", kind, a, Does(kind), Wrong(o))
			}
			c := api.Cursor{Row: 9, Col: 9, Pending: true}
			p := pen(c)
			before := told(p)
			if err := Do(p, o); api.Code(err) != want || err != nil && (told(p) != before || p.At != c || !p.Auto) {
				t.Errorf("%d, %d: %v, %s at %v", kind, a, err, told(p), p.At)
			}
			none := &place.Pen{At: c}
			if api.Code(Do(nil, o)) != want || api.Code(Do(none, o)) != want || *none != (place.Pen{At: c}) {
				t.Errorf("%d, %d: something is done to nothing", kind, a)
			}
		}
	}
}

// 38.1: each kind.
func TestDo(t *testing.T) {
	for _, x := range []struct {
		kind, a, b int
		from       api.Cursor
		want       string
		at         api.Cursor
	}{
		{api.Move, 1, 2, at(0, 0), "abcd+/一=ef/ghij+", at(1, 2)},
		{api.Move, math.MaxInt, math.MinInt, at(0, 0), "abcd+/一=ef/ghij+", at(2, 0)},
		{api.Move, 0, 3, api.Cursor{Col: 3, Pending: true}, "abcd+/一=ef/ghij+", at(0, 3)},
		{api.EraseLine, 0, 0, at(0, 1), "a.../一=ef/ghij+", at(0, 1)},
		{api.EraseLine, 1, 0, at(0, 1), "..cd+/一=ef/ghij+", at(0, 1)},
		{api.EraseLine, 2, 0, at(0, 1), "..../一=ef/ghij+", at(0, 1)},
		{api.EraseLine, 0, 0, at(1, 1), "abcd+/..../ghij+", at(1, 1)},
		{api.EraseLine, 1, 0, at(1, 0), "abcd+/..ef/ghij+", at(1, 0)},
		{api.EraseScreen, 0, 0, at(1, 2), "abcd+/一=../....", at(1, 2)},
		{api.EraseScreen, 1, 0, at(1, 2), "..../...f/ghij+", at(1, 2)},
		{api.EraseScreen, 2, 0, at(1, 2), "..../..../....", at(1, 2)},
		{api.EraseScreen, 1, 0, at(2, 3), "..../..../....", at(2, 3)},
		{api.EraseCells, 1, 0, at(1, 1), "abcd+/..ef/ghij+", at(1, 1)},
		{api.EraseCells, 2, 0, at(2, 0), "abcd+/一=ef/..ij+", at(2, 0)},
		{api.EraseCells, 0, 0, at(2, 0), "abcd+/一=ef/ghij+", at(2, 0)},
		{api.EraseCells, math.MaxInt, 0, at(2, 1), "abcd+/一=ef/g...", at(2, 1)},
		{api.InsertCells, 1, 0, at(0, 1), "a.bc/一=ef/ghij+", at(0, 1)},
		{api.InsertCells, -1, 0, at(0, 1), "abcd+/一=ef/ghij+", at(0, 1)},
		{api.DeleteCells, 1, 0, at(1, 0), "abcd+/.ef./ghij+", at(1, 0)},
		{api.DeleteCells, math.MaxInt, 0, at(2, 2), "abcd+/一=ef/gh..", at(2, 2)},
		{api.InsertLines, 1, 0, at(1, 2), "abcd/..../一=ef", at(1, 0)},
		{api.InsertLines, 0, 0, at(1, 2), "abcd+/一=ef/ghij+", at(1, 0)},
		{api.DeleteLines, 1, 0, at(1, 2), "abcd/ghij+/....", at(1, 0)},
		{api.DeleteLines, math.MaxInt, 0, at(0, 2), "..../..../....", at(0, 0)},
		{api.ScrollUp, 1, 0, at(1, 2), "一=ef/ghij+/....", at(1, 2)},
		{api.ScrollDown, 2, 0, at(1, 2), "..../..../abcd", at(1, 2)},
		{api.ScrollDown, math.MinInt, 0, at(1, 2), "abcd+/一=ef/ghij+", at(1, 2)},
		{api.EraseCells, 1, 0, at(-4, 99), "abc./一=ef/ghij+", at(0, 3)},
	} {
		p := pen(x.from)
		if err := Do(p, api.Op{Kind: x.kind, A: x.a, B: x.b}); err != nil || told(p) != x.want || p.At != x.at || !p.Auto {
			t.Errorf("%d, %d, %d at %v: %s at %v, %v", x.kind, x.a, x.b, x.from, told(p), p.At, err)
		}
	}
}

// 38.1: rows that go on by themselves, or not.
func TestAutowrap(t *testing.T) {
	p := pen(api.Cursor{Row: 1, Col: 3, Pending: true})
	for _, x := range []struct {
		a    int
		want bool
	}{{0, false}, {1, true}, {0, false}, {-7, true}} {
		if err := Do(p, api.Op{Kind: api.Autowrap, A: x.a}); err != nil || p.Auto != x.want || p.At != at(1, 3) {
			t.Error(x.a, p.Auto, p.At, err)
		}
	}
}

// 38.1: behind each edit nothing is pending; 38.2: the cursor may be, rows are sound.
func TestAny(t *testing.T) {
	rnd := rand.New(rand.NewSource(38))
	for range 5000 {
		p := pen(api.Cursor{Row: rnd.Intn(5) - 1, Col: rnd.Intn(6) - 1, Pending: rnd.Intn(2) == 0})
		for range 4 {
			o := api.Op{Kind: rnd.Intn(16) - 1, A: rnd.Intn(6) - 1, B: rnd.Intn(6) - 1}
			err := Do(p, o)
			if err == nil && (p.At.Pending || !cursor.Right(p.At, 4, 3)) {
				t.Fatalf("%v: %v", o, p.At)
			}
			for _, l := range p.G.Lines() {
				if !cell.Sound(l.Cells...) || len(l.Cells) != 4 {
					t.Fatalf("%v: %v", o, l)
				}
			}
			if rnd.Intn(2) == 0 {
				p.Put(1+rnd.Intn(2), 'z')
			}
		}
	}
}
