package screen

import (
	"math"
	"math/rand"
	"reflect"
	"slices"
	"strings"
	"testing"

	"linotype/api"
	"linotype/cell"
	"linotype/cursor"
)

func feedOp(s string) api.Op { return api.Op{Kind: api.Feed, Bytes: []byte(s)} }
func op(kind int, n ...int) api.Op {
	o := api.Op{Kind: kind}
	if len(n) > 0 {
		o.A = n[0]
	}
	if len(n) > 1 {
		o.B = n[1]
	}
	return o
}

// told is a view's cells: a dot of each Blank, = of each Spacer, else the numbers; + behind a line that goes on.
func told(v api.View) string {
	var rows []string
	for _, l := range v.Lines {
		s := ""
		for _, c := range l.Cells {
			switch c.Kind {
			case api.Blank:
				s += "."
			case api.Spacer:
				s += "="
			default:
				s += string(c.Text)
			}
		}
		if l.Wrap {
			s += "+"
		}
		rows = append(rows, s)
	}
	return strings.Join(rows, "/")
}

func cellAt(v api.View, row, col int) []rune { return v.Lines[row].Cells[col].Text }

// 40.1: new screens, and what they show.
func TestNew(t *testing.T) {
	s := New(3, 2)
	v := s.View()
	if v.Wide != 3 || v.High != 2 || told(v) != ".../..." || v.At != (api.Cursor{}) || !v.Auto || s.Held() != 0 || len(s.Open()) > 0 {
		t.Error(v)
	}
	v.Lines[0].Cells[0] = api.Cell{Kind: api.One, Text: []rune{0x61}}
	v.Lines[1].Wrap = true
	if told(s.View()) != ".../..." {
		t.Error("what is handed out is the screen's")
	}
	if v = New(math.MinInt, math.MaxInt).View(); v.Wide != 1 || v.High != 1024 || len(v.Lines) != 1024 {
		t.Error(v.Wide, v.High)
	}
}

// 40.1, 40.2: a nil screen.
func TestNil(t *testing.T) {
	var s *Screen
	if v := s.View(); !reflect.DeepEqual(v, api.View{}) || s.Held() != 0 || len(s.Open()) > 0 {
		t.Error("a nil screen has something")
	}
	for _, o := range []api.Op{feedOp("a"), op(api.Flush), op(api.EraseLine, 7), op(99)} {
		if api.Code(s.Do(o)) != 8 || api.Code(s.Run(o)) != 8 {
			t.Error(o, s.Do(o))
		}
	}
	if s.Run() != nil {
		t.Error("nothing is refused")
	}
}

// the document's examples of the whole
func TestExamples(t *testing.T) {
	s := New(3, 2)
	if err := s.Do(feedOp("ab\xe4\xb8\x80")); err != nil || told(s.View()) != "ab.+/\u4e00=." {
		t.Error(told(s.View()), err)
	}
	s = New(3, 1)
	if err := s.Run(feedOp("\xe2"), feedOp("\x82\xac")); err != nil || told(s.View()) != "\u20ac.." {
		t.Error(told(s.View()), err)
	}
	s = New(3, 1)
	if err := s.Run(feedOp("\xe2\x82\x41")); err != nil || told(s.View()) != "\ufffdA." {
		t.Error(told(s.View()), err)
	}
	s = New(3, 2)
	if err := s.Run(op(api.Move, 0, 2), feedOp("\u2764"), feedOp("\ufe0f")); err != nil || told(s.View()) != "...+/\u2764\ufe0f=." {
		t.Error(told(s.View()), err)
	}
	s = New(1, 1)
	if err := s.Run(feedOp("\u4e00")); err != nil || told(s.View()) != "\ufffd" || s.View().Lines[0].Cells[0].Kind != api.One {
		t.Error(told(s.View()), err)
	}
	s = New(3, 1)
	if err := s.Run(feedOp("a"), op(api.Move), feedOp("\xcc\x81")); err != nil || !slices.Equal(cellAt(s.View(), 0, 0), []rune{0x301}) {
		t.Error(told(s.View()), err)
	}
	s = New(3, 1)
	if err := s.Run(feedOp("\u4e00"), op(api.Move, 0, 1), op(api.EraseCells, 1)); err != nil || told(s.View()) != "..." {
		t.Error(told(s.View()), err)
	}
	s = New(3, 1)
	if err := s.Run(feedOp(strings.Repeat("\u0301", 17))); err != nil || len(cellAt(s.View(), 0, 0)) != 16 || s.View().At.Col != 1 {
		t.Error(told(s.View()), err)
	}
}

// 40.2: what closes the open cluster, and what does not; what is held stays but behind Flush.
func TestClosing(t *testing.T) {
	for _, x := range []struct {
		o    api.Op
		code int
		open bool
		held int
	}{
		{op(api.Flush), 0, false, 0},
		{op(api.Autowrap, 1), 0, false, 1},
		{op(api.ScrollUp, 0), 0, false, 1},
		{op(api.Resize, 3, 1), 0, false, 1},
		{op(api.EraseLine, 3), 3, true, 1},
		{op(api.EraseScreen, -1), 3, true, 1},
		{op(14), 5, true, 1},
		{op(-1), 5, true, 1},
		{op(math.MinInt), 5, true, 1},
		{feedOp(""), 0, true, 1},
	} {
		s := New(3, 1)
		if err := s.Do(feedOp("a\xcc")); err != nil {
			t.Error(err)
		}
		before := s.View()
		err := s.Do(x.o)
		if api.Code(err) != x.code || len(s.Open()) > 0 != x.open || s.Held() != x.held {
			t.Errorf("%v: %v, %x open, %d held", x.o, err, s.Open(), s.Held())
		}
		if x.code > 0 && !reflect.DeepEqual(s.View(), before) {
			t.Errorf("%v: something is done", x.o)
		}
	}
}

// 40.2: all of many; those that are refused are passed over.
func TestRun(t *testing.T) {
	s := New(4, 2)
	err := s.Run(feedOp("ab"), op(api.EraseLine, 9), feedOp("\u0301"), op(77), op(api.Resize, 2, 1), op(api.EraseScreen, 5))
	if api.Code(err) != 3 || api.At(err) != 1 || api.Within(err) != -1 || told(s.View()) != "ab\u0301" {
		t.Error(err, api.At(err), told(s.View()))
	}
	if err = s.Run(op(api.Flush), op(77)); api.Code(err) != 5 || api.At(err) != 1 {
		t.Error(err)
	}
	if err = s.Run(op(api.Autowrap, 0), feedOp("c")); err != nil || s.View().Auto || told(s.View()) != "ac" {
		t.Error(err, told(s.View()))
	}
}

// 40.2: what is handed in is not kept.
func TestMemory(t *testing.T) {
	b := []byte("a\xe2\x82")
	s := New(3, 1)
	if err := s.Do(api.Op{Kind: api.Feed, Bytes: b}); err != nil {
		t.Error(err)
	}
	clear(b)
	if err := s.Do(feedOp("\xac")); err != nil || told(s.View()) != "a\u20ac." {
		t.Error(told(s.View()), err)
	}
	s.Open()[0] = 0x7a
	if !slices.Equal(s.Open(), []rune{0x20ac}) {
		t.Errorf("%x", s.Open())
	}
}

func someOp(rnd *rand.Rand) api.Op {
	if rnd.Intn(3) > 0 {
		kinds := []string{"a", "b\u0301", "\u4e00", "\u2764", "\ufe0f", "\U0001f468\u200d", "\U0001f1e9", "\n", "\r\n", "\b", "\xe2", "\x82", "\xff", "\u0301"}
		s := ""
		for range 1 + rnd.Intn(4) {
			s += kinds[rnd.Intn(len(kinds))]
		}
		return feedOp(s)
	}
	return op(rnd.Intn(16)-1, rnd.Intn(6)-1, rnd.Intn(6)-1)
}

// 40.3: at each step rows are sound, and the cursor may be; bytes may come in any pieces.
func TestAny(t *testing.T) {
	rnd := rand.New(rand.NewSource(40))
	for range 1500 {
		w, h := 1+rnd.Intn(5), 1+rnd.Intn(4)
		s, pieces := New(w, h), New(w, h)
		for range 12 {
			o := someOp(rnd)
			err := s.Do(o)
			if o.Kind == api.Feed {
				for _, b := range o.Bytes {
					_ = pieces.Do(api.Op{Kind: api.Feed, Bytes: []byte{b}})
				}
			} else if again := pieces.Do(o); api.Code(again) != api.Code(err) {
				t.Fatal(err, again)
			}
			v := s.View()
			if !reflect.DeepEqual(v, pieces.View()) || s.Held() != pieces.Held() || !slices.Equal(s.Open(), pieces.Open()) {
				t.Fatalf("%v: %s, in pieces %s", o, told(v), told(pieces.View()))
			}
			if len(v.Lines) != v.High || !cursor.Right(v.At, v.Wide, v.High) {
				t.Fatalf("%v: %v", o, v)
			}
			for _, l := range v.Lines {
				if len(l.Cells) != v.Wide || !cell.Sound(l.Cells...) {
					t.Fatalf("%v: %v", o, l)
				}
			}
		}
	}
}
