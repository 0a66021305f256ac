package basew

import (
	"math"
	"testing"

	"linotype/api"
	"linotype/ucd"
)

// 18.1: all properties.
func TestOf(t *testing.T) {
	zero := map[int]bool{api.CR: true, api.LF: true, api.Control: true, api.Extend: true, api.ZWJ: true, api.V: true, api.T: true}
	for b := -1; b <= 14; b++ {
		for east, want := range map[int]int{-1: 1, api.Neutral: 1, api.Wide: 2, api.Full: 2, api.Half: 1, 4: 1} {
			for _, pict := range []bool{false, true} {
				if zero[b] {
					want = 0
				}
				if got := Of(api.Prop{Break: b, East: east, Pict: pict}); got != want {
					t.Errorf("class %d, east %d: %d", b, east, got)
				}
			}
		}
	}
}

// 18.1: numbers by their properties.
func TestRune(t *testing.T) {
	for r, want := range map[rune]int{0x61: 1, 0x4e00: 2, 0x301: 0, 0x1f3fb: 0, 0xa: 0, 0x200d: 0, 0x1100: 2, 0x1161: 0, 0x11a8: 0, 0xac00: 2, 0xff21: 2, 0xff71: 1, 0x1f1e9: 1, 0x903: 1, -1: 1, 0x110000: 1, math.MinInt32: 1, math.MaxInt32: 1} {
		if Rune(r) != want {
			t.Errorf("%x is %d wide", r, Rune(r))
		}
	}
	for r := rune(0); r < 0x20000; r++ {
		if Rune(r) != Of(ucd.Of(r)) {
			t.Fatalf("%x is %d wide", r, Rune(r))
		}
	}
}

// 18.2, 18.3: what is silent.
func TestSilent(t *testing.T) {
	for r := rune(-100); r < 0x300; r++ {
		if want := r >= 0 && r < 0x20 || r > 0x7e && r < 0xa0; Silent(r) != want {
			t.Errorf("Silent(%x) is %v", r, Silent(r))
		}
		if Silent(r) && Rune(r) != 0 {
			t.Errorf("%x is silent, and %d wide", r, Rune(r))
		}
	}
	for _, r := range []rune{math.MinInt32, 0x2028, 0xfeff, 0x10ffff, math.MaxInt32} {
		if Silent(r) {
			t.Errorf("%x is silent", r)
		}
	}
}
