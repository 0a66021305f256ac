package hangul

import (
	"math"
	"testing"

	"linotype/api"
)

// 8.1, 8.3: all syllables, in the order of their parts.
func TestSyllables(t *testing.T) {
	s := rune(0xac00)
	for l := rune(0x1100); l <= 0x1112; l++ {
		for v := rune(0x1161); v <= 0x1175; v++ {
			for k := rune(0x11a7); k <= 0x11c2; k++ {
				tail, class := k, api.LVT
				if k == 0x11a7 {
					tail, class = 0, api.LV
				}
				a, b, c := Split(s)
				if !Syllable(s) || a != l || b != v || c != tail || Class(s) != class {
					t.Fatalf("%x: %v, %x %x %x, %d", s, Syllable(s), a, b, c, Class(s))
				}
				if got, ok := Join(l, v, tail); got != s || !ok {
					t.Fatalf("Join(%x, %x, %x): %x, %v", l, v, tail, got, ok)
				}
				s++
			}
		}
	}
	if s != 0xd7a4 {
		t.Errorf("the syllables end at %x", s)
	}
}

// 8.1: what is no syllable.
func TestNoSyllable(t *testing.T) {
	for _, r := range []rune{math.MinInt32, -1, 0, 0x61, 0x1100, 0xabff, 0xd7a4, 0x10ffff, math.MaxInt32} {
		if l, v, k := Split(r); Syllable(r) || l != 0 || v != 0 || k != 0 {
			t.Errorf("%x is a syllable: %x %x %x", r, l, v, k)
		}
	}
}

// 8.1: parts that no syllable has.
func TestJoinWrong(t *testing.T) {
	for _, x := range [][3]rune{
		{0x10ff, 0x1161, 0}, {0x1113, 0x1161, 0}, {0x1100, 0x1160, 0}, {0x1100, 0x1176, 0},
		{0x1100, 0x1161, 0x11a7}, {0x1100, 0x1161, 0x11c3}, {0x1100, 0x1161, 1}, {0x1100, 0x1161, -1},
		{0, 0, 0}, {math.MinInt32, math.MaxInt32, math.MinInt32}, {math.MaxInt32, 0x1161, 0}, {0x1100, math.MinInt32, 0}, {0x1100, 0x1161, math.MaxInt32},
	} {
		if r, ok := Join(x[0], x[1], x[2]); r != 0 || ok {
			t.Errorf("Join(%x): %x, %v", x, r, ok)
		}
	}
}

// 8.2: the edges of each class.
func TestClass(t *testing.T) {
	for r, want := range map[rune]int{
		0x10ff: api.Other, 0x1100: api.L, 0x115f: api.L, 0x1160: api.V, 0x11a7: api.V, 0x11a8: api.T, 0x11ff: api.T, 0x1200: api.Other,
		0xa95f: api.Other, 0xa960: api.L, 0xa97c: api.L, 0xa97d: api.Other,
		0xabff: api.Other, 0xac00: api.LV, 0xac01: api.LVT, 0xac1b: api.LVT, 0xac1c: api.LV, 0xd7a3: api.LVT, 0xd7a4: api.Other,
		0xd7af: api.Other, 0xd7b0: api.V, 0xd7c6: api.V, 0xd7c7: api.Other, 0xd7ca: api.Other, 0xd7cb: api.T, 0xd7fb: api.T, 0xd7fc: api.Other,
		0: api.Other, 0x61: api.Other, -1: api.Other, math.MinInt32: api.Other, math.MaxInt32: api.Other,
	} {
		if Class(r) != want {
			t.Errorf("Class(%x) is %d", r, Class(r))
		}
	}
}
