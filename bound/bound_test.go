package bound

import (
	"math"
	"math/rand"
	"reflect"
	"slices"
	"testing"

	"linotype/api"
	"linotype/cell"
	"linotype/cursor"
	"linotype/fitline"
	"linotype/measure"
	"linotype/mirror"
	"linotype/screen"
)

// 48.1: the chapter's example, and edges.
func TestMost(t *testing.T) {
	for _, x := range [][3]int{{80, 24, 30720}, {1, 1, 16}, {0, -5, 16}, {math.MinInt, 2, 32}, {1024, 1024, 1 << 24}, {math.MaxInt, math.MaxInt, 1 << 24}} {
		if got := Most(x[0], x[1]); got != x[2] {
			t.Errorf("Most(%d, %d) is %d", x[0], x[1], got)
		}
	}
}

// 48.1: numbers of whatever cells.
func TestUsed(t *testing.T) {
	v := api.View{Lines: []api.Line{{Cells: []api.Cell{{Text: []rune{1, 2}}, {Kind: 9, Text: []rune{3}}, {}}}, {}, {Cells: []api.Cell{{Kind: api.One, Text: make([]rune, 40)}}}}}
	if Used(v) != 43 || Used(api.View{}) != 0 {
		t.Error(Used(v))
	}
}

// 48.2: the chapter's example, and edges.
func TestRows(t *testing.T) {
	for _, x := range [][3]int{
		{3, 3, 3}, {0, 3, 1}, {-7, 3, 1}, {math.MinInt, math.MinInt, 1}, {5, 1, 5}, {5, 0, 5}, {1, 2, 2}, {1, 3, 1}, {1, 1024, 1}, {2, 4, 2}, {3, 4, 2}, {512, 1024, 2}, {511, 1024, 1},
		{1 << 30, 1, 1 << 30}, {math.MaxInt, 1, 1 << 30}, {math.MaxInt, 2, 1 << 31}, {math.MaxInt, math.MaxInt, 2099203},
	} {
		if got := Rows(x[0], x[1]); got != x[2] {
			t.Errorf("Rows(%d, %d) is %d", x[0], x[1], got)
		}
	}
	for n, want := range map[int]int{math.MinInt: 0, -1: 0, 0: 0, 1: 2, 1 << 30: 1 << 31, math.MaxInt: 1 << 31} {
		if Columns(n) != want {
			t.Errorf("Columns(%d) is %d", n, Columns(n))
		}
	}
}

// 48.3: what a text needs.
func TestTexts(t *testing.T) {
	kinds := []rune{0x4e00, 0x4e00, 0x61, 0x301, 0x1f468, 0x1f1e9, 0x2764, 0xfe0f, 0xa}
	rnd := rand.New(rand.NewSource(48))
	for range 3000 {
		l := make([]rune, rnd.Intn(20))
		for i := range l {
			l[i] = kinds[rnd.Intn(2+rnd.Intn(len(kinds)-1))]
		}
		w := 1 + rnd.Intn(6)
		if measure.Columns(l...) > Columns(len(l)) || fitline.Count(l, w) > Rows(len(l), w) {
			t.Fatalf("%x: %d columns, %d lines of %d", l, measure.Columns(l...), fitline.Count(l, w), w)
		}
	}
}

func someOp(rnd *rand.Rand) api.Op {
	kinds := []string{"a", "b\u0301", "\u4e00", "\u2764", "\ufe0f", "\U0001f468", "\u200d", "\U0001f1e9", "\n", "\r\n", "\b", "\xe2", "\x82", "\xff", "\u0301\u0301\u0301\u0301\u0301\u0301\u0301\u0301", "\xf0\x9f"}
	if rnd.Intn(4) == 0 {
		return api.Op{Kind: rnd.Intn(16) - 1, A: rnd.Intn(7) - 2, B: rnd.Intn(7) - 2}
	}
	var b []byte
	for range rnd.Intn(6) {
		b = append(b, kinds[rnd.Intn(len(kinds))]...)
	}
	return api.Op{Bytes: b}
}

// isWhole looks at what W2 and W5 promise of a screen.
func isWhole(t *testing.T, v api.View, l []api.Op) {
	t.Helper()
	if len(v.Lines) != v.High || !cursor.Right(v.At, v.Wide, v.High) || Used(v) > Most(v.Wide, v.High) {
		t.Fatalf("%v: %v", l, v)
	}
	for _, line := range v.Lines {
		if len(line.Cells) != v.Wide || !cell.Sound(line.Cells...) {
			t.Fatalf("%v: %v", l, v)
		}
	}
}

// 48.3, W1, W2, W3, W5: whatever operations, in whichever pieces.
func TestScreens(t *testing.T) {
	rnd := rand.New(rand.NewSource(483))
	for range 1200 {
		w, h := 1+rnd.Intn(6), 1+rnd.Intn(4)
		s, pieces := screen.New(w, h), screen.New(w, h)
		var l []api.Op
		for range 10 {
			o := someOp(rnd)
			l = append(l, o)
			err := s.Do(o)
			for _, b := range o.Bytes {
				_ = pieces.Do(api.Op{Bytes: []byte{b}})
			}
			if o.Kind != api.Feed && api.Code(pieces.Do(o)) != api.Code(err) {
				t.Fatal(o, err)
			}
			v := s.View()
			isWhole(t, v, l)
			if !reflect.DeepEqual(v, mirror.Run(w, h, l...)) {
				t.Fatalf("%v: the model shows something else", l)
			}
			if !reflect.DeepEqual(v, pieces.View()) || s.Held() != pieces.Held() || !slices.Equal(s.Open(), pieces.Open()) {
				t.Fatalf("%v: in pieces it is another one", l)
			}
		}
	}
}

// W5: a full screen has Most numbers.
func TestFull(t *testing.T) {
	s := screen.New(5, 3)
	cluster := append([]byte("a"), slices.Repeat([]byte("\u0301"), 30)...)
	for range 40 {
		if err := s.Do(api.Op{Bytes: cluster}); err != nil {
			t.Fatal(err)
		}
	}
	if v := s.View(); Used(v) != Most(5, 3) {
		t.Error(Used(v))
	}
}
