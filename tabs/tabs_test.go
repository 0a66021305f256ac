package tabs

import (
	"math"
	"math/rand"
	"slices"
	"testing"
)

// 57.1: a stop at each so many columns.
func TestEvery(t *testing.T) {
	for _, n := range []int{math.MinInt, 0, 1, 4, 500, 1023, 1024, 1025, math.MaxInt} {
		var want []int
		held := min(max(n, 1), 1024)
		for col := held; col < 1024; col += held {
			want = append(want, col)
		}
		if got := Every(n).All(); !slices.Equal(got, want) {
			t.Errorf("Every(%d): %d", n, got)
		}
	}
}

// 57.1: single stops; what may not be one.
func TestOfAndSet(t *testing.T) {
	s := Of(7, 0, -1, 1023, 1024, 3, 7, math.MinInt, math.MaxInt)
	if got := s.All(); !slices.Equal(got, []int{3, 7, 1023}) {
		t.Error(got)
	}
	s.Set(7, false)
	s.Set(5, true)
	s.Set(6, false)
	for _, col := range []int{0, -1, 1024, math.MinInt, math.MaxInt} {
		s.Set(col, true)
		s.Set(col, false)
	}
	if got := s.All(); !slices.Equal(got, []int{3, 5, 1023}) {
		t.Error(got)
	}
	if len(Of().All()) > 0 {
		t.Error("there is a stop")
	}
}

// 57.2: the stops about any column.
func TestNextAndPrev(t *testing.T) {
	rnd := rand.New(rand.NewSource(57))
	for range 200 {
		s := Of()
		var all []int
		for range rnd.Intn(5) {
			s.Set(rnd.Intn(30), true)
			s.Set(rnd.Intn(1100), true)
		}
		all = s.All()
		for _, col := range []int{math.MinInt, -1, 0, 1, 5, 10, 20, 29, 30, 500, 1022, 1023, 1024, 1025, math.MaxInt, rnd.Intn(30), rnd.Intn(1100)} {
			next, prev := 1023, 0
			for _, stop := range slices.Backward(all) {
				if stop > col {
					next = stop
				}
			}
			for _, stop := range all {
				if stop < col {
					prev = stop
				}
			}
			if s.Next(col) != next || s.Prev(col) != prev {
				t.Fatalf("of %d about %d: %d, %d, not %d, %d", all, col, s.Next(col), s.Prev(col), next, prev)
			}
		}
	}
}

// 57.2: nil stops.
func TestNil(t *testing.T) {
	var s *Stops
	s.Set(5, true)
	if s.Next(3) != 1023 || s.Next(math.MinInt) != 1023 || s.Prev(9) != 0 || len(s.All()) > 0 {
		t.Error("nil stops have something")
	}
	if got := s.Expand(0x61, 0x9, 0x62); len(got) != 1+1022+1 || got[1023] != 0x62 {
		t.Error(len(got))
	}
}

// 57.3: the chapter's example, and others.
func TestExpand(t *testing.T) {
	for _, x := range []struct{ in, want string }{
		{"a\tb", "a   b"},
		{"", ""},
		{"\t", "    "},
		{"\t\t", "        "},
		{"abcd\te", "abcd    e"},
		{"\u4e00\ta", "\u4e00  a"},
		{"a\u0301\tb", "a\u0301   b"},
		{"ab\n\tc", "ab\n    c"},
		{"ab\r\n\tc", "ab\r\n    c"},
		{"ab\r\tc", "ab\r  c"},
		{"a\x00\x1b\tb", "a\x00\x1b   b"},
		{"a\t\u0301b\tc", "a   \u0301b  c"},
		{"\u2764\ufe0f\t.", "\u2764\ufe0f  ."},
	} {
		if got := string(Every(4).Expand([]rune(x.in)...)); got != x.want {
			t.Errorf("%q: %q", x.in, got)
		}
	}
	if got := string(Of(2).Expand([]rune("a\tb\tc")...)); len(got) != 1+1+1+1020+1 {
		t.Error(len(got))
	}
	in := []rune{0x61, -1}
	Every(4).Expand(in...)[0] = 0x7a
	if in[0] != 0x61 {
		t.Error("a text shares memory with another one")
	}
}

// 57.3: behind the last stop a tab is one blank at least.
func TestFar(t *testing.T) {
	text := slices.Repeat([]rune{0x61}, 1023)
	for n := range 4 {
		l := append(slices.Clone(text[n:]), 0x9, 0x62)
		if got := Of().Expand(l...); len(got) != 1023-n+max(n, 1)+1 {
			t.Error(n, len(got))
		}
	}
	if got := Of(5).Expand(append(slices.Repeat([]rune{0x4e00}, 600), 0x9, 0x9)...); len(got) != 602 {
		t.Error(len(got))
	}
}
