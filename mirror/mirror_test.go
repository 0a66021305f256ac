package mirror

import (
	"math"
	"math/rand"
	"reflect"
	"slices"
	"testing"

	"linotype/api"
	"linotype/screen"
)

func feedOp(s string) api.Op { return api.Op{Kind: api.Feed, Bytes: []byte(s)} }

func op(kind int, n ...int) api.Op {
	o := api.Op{Kind: kind}
	if len(n) > 0 {
		o.A = n[0]
	}
	if len(n) > 1 {
		o.B = n[1]
	}
	return o
}

// 41.1: the chapter's example, and others.
func TestGroups(t *testing.T) {
	move := op(api.Move)
	for _, x := range []struct {
		l    []api.Op
		want [][]rune
	}{
		{nil, [][]rune{nil}},
		{[]api.Op{feedOp("a\xe2"), move, feedOp("\x82\xac")}, [][]rune{{0x61}, {0x20ac}}},
		{[]api.Op{feedOp("a\xe2")}, [][]rune{{0x61}}},
		{[]api.Op{feedOp("a\xe2"), op(api.Flush), feedOp("\x82")}, [][]rune{{0x61, 0xfffd}, {0xfffd}}},
		{[]api.Op{feedOp("a\xe2"), move, op(api.Flush)}, [][]rune{{0x61}, {0xfffd}, nil}},
		{[]api.Op{feedOp("\xe2"), move, feedOp("a")}, [][]rune{nil, {0xfffd, 0x61}}},
		{[]api.Op{feedOp("\xe2"), move, feedOp("\x82"), op(api.Resize, 1, 1), feedOp("\xacb")}, [][]rune{nil, nil, {0x20ac, 0x62}}},
		{[]api.Op{move, move}, [][]rune{nil, nil, nil}},
		{[]api.Op{feedOp("a"), op(99), op(api.EraseLine, 3), feedOp("b"), op(-1)}, [][]rune{{0x61, 0x62}}},
		{[]api.Op{op(api.Flush), feedOp("a"), op(api.Flush), op(api.Flush)}, [][]rune{nil, {0x61}, nil, nil}},
		{[]api.Op{feedOp("\xff"), move, feedOp("\xf0\x9f"), move, feedOp("\xff")}, [][]rune{{0xfffd}, nil, {0xfffd, 0xfffd}}},
	} {
		if got := Groups(x.l...); !slices.EqualFunc(got, x.want, slices.Equal[[]rune]) {
			t.Errorf("%v: %x", x.l, got)
		}
	}
}

// 41.2: controls, edits, sizes.
func TestRun(t *testing.T) {
	v := Run(3, 2, feedOp("ab\r\nc"), op(api.Move, 0, 2), feedOp("\u4e00"), op(api.Autowrap, 0), op(99), op(api.Resize, 2, 2))
	if v.Wide != 2 || v.High != 2 || v.Auto || v.At != (api.Cursor{Row: 1, Col: 1}) || v.Lines[0].Cells[1].Text[0] != 0x62 || v.Lines[1].Cells[0].Kind != api.Lead {
		t.Error(v)
	}
	if v = Run(math.MinInt, math.MaxInt); v.Wide != 1 || v.High != 1024 || !v.Auto {
		t.Error(v.Wide, v.High)
	}
}

func someOp(rnd *rand.Rand) api.Op {
	if rnd.Intn(3) > 0 {
		kinds := []string{"a", "b\u0301", "\u4e00", "\u2764", "\ufe0f", "\U0001f468", "\u200d", "\U0001f1e9", "\n", "\r", "\r\n", "\b", "\xe2", "\x82", "\xff", "\u0301", "\xf0\x9f", "\u0915\u094d", "\u200b", "\u0600", "\x85", "\xc2"}
		s := ""
		for range rnd.Intn(5) {
			s += kinds[rnd.Intn(len(kinds))]
		}
		return feedOp(s)
	}
	return op(rnd.Intn(16)-1, rnd.Intn(6)-1, rnd.Intn(6)-1)
}

// 41.3: a screen shows the same, operation by operation.
func TestScreen(t *testing.T) {
	rnd := rand.New(rand.NewSource(41))
	for range 3000 {
		w, h := 1+rnd.Intn(5), 1+rnd.Intn(4)
		s := screen.New(w, h)
		var l []api.Op
		closing := 0
		for range rnd.Intn(12) {
			o := someOp(rnd)
			l = append(l, o)
			if err := s.Do(o); err == nil && o.Kind != api.Feed {
				closing++
			}
			if v := Run(w, h, l...); !reflect.DeepEqual(v, s.View()) {
				t.Fatalf("%d, %d, %v: %v, on the screen %v", w, h, l, v, s.View())
			}
		}
		if got := Groups(l...); len(got) != closing+1 {
			t.Fatalf("%v: %d groups", l, len(got))
		}
	}
}

// 41.3: clusters of more than sixteen numbers, among them some that would be wide by what is dropped.
func TestLong(t *testing.T) {
	for n := range 40 {
		text := "\u2764"
		for range n {
			text += "\u200c"
		}
		l := []api.Op{feedOp("ab" + text + "\u200d\u2764" + "c")}
		s := screen.New(4, 3)
		if err := s.Run(l...); err != nil || !reflect.DeepEqual(Run(4, 3, l...), s.View()) {
			t.Errorf("%d: %v, on the screen %v", n, Run(4, 3, l...), s.View())
		}
	}
}
