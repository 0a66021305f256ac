package border

import (
	"math"
	"math/rand"
	"testing"

	"linotype/grapheme"
)

func isBorder(l []rune, at int) bool {
	if at == 0 || at == len(l) {
		return true
	}
	for _, s := range grapheme.Starts(l...) {
		if s == at {
			return true
		}
	}
	return false
}

// 17.1, 17.2: the chapter's example.
func TestExample(t *testing.T) {
	l := []rune{0x65, 0x301, 0x61}
	for at, want := range map[int]bool{-1: false, 0: true, 1: false, 2: true, 3: true, 4: false} {
		if Is(l, at) != want {
			t.Errorf("Is(%d) is %v", at, Is(l, at))
		}
	}
	if from, to := Around(l, 1); from != 0 || to != 2 || Snap(l, 1) != 0 {
		t.Error(from, to, Snap(l, 1))
	}
}

// 17.1, 17.2: all places of rows, by definition.
func TestRows(t *testing.T) {
	kinds := []rune{0x61, 0x301, 0x200d, 0x1f468, 0x1f1e9, 0xd, 0xa, -1}
	rnd := rand.New(rand.NewSource(17))
	for range 2000 {
		l := make([]rune, rnd.Intn(9))
		for i := range l {
			l[i] = kinds[rnd.Intn(len(kinds))]
		}
		for at := -3; at <= len(l)+3; at++ {
			next, prev, snap := len(l), 0, 0
			for b := len(l); b >= 0; b-- {
				if isBorder(l, b) && b > at {
					next = b
				}
			}
			for b := range len(l) + 1 {
				if isBorder(l, b) && b < at {
					prev = b
				}
				if isBorder(l, b) && b <= at {
					snap = b
				}
			}
			if Is(l, at) != isBorder(l, at) || Next(l, at) != next || Prev(l, at) != prev || Snap(l, at) != snap {
				t.Fatalf("%x at %d: %v, %d, %d, %d", l, at, Is(l, at), Next(l, at), Prev(l, at), Snap(l, at))
			}
			held := min(max(at, 0), max(len(l)-1, 0))
			if from, to := Around(l, at); from != Snap(l, held) && len(l) > 0 || to != Next(l, held) || to > len(l) {
				t.Fatalf("%x about %d: %d, %d", l, at, from, to)
			}
		}
	}
}

// 17.1, 17.2: places far outside, and rows without numbers.
func TestEdges(t *testing.T) {
	l := []rune{0x61, 0x62}
	for _, at := range []int{math.MinInt, -1} {
		if from, to := Around(l, at); Is(l, at) || Next(l, at) != 0 || Prev(l, at) != 0 || Snap(l, at) != 0 || from != 0 || to != 1 {
			t.Errorf("%d: %d, %d, %d", at, Next(l, at), from, to)
		}
	}
	for _, at := range []int{math.MaxInt, 3} {
		if from, to := Around(l, at); Is(l, at) || Next(l, at) != 2 || Prev(l, at) != 2 || Snap(l, at) != 2 || from != 1 || to != 2 {
			t.Errorf("%d: %d, %d, %d", at, Prev(l, at), from, to)
		}
	}
	for _, at := range []int{math.MinInt, -1, 0, 1, math.MaxInt} {
		if from, to := Around(nil, at); Is(nil, at) != (at == 0) || Next(nil, at) != 0 || Prev(nil, at) != 0 || Snap(nil, at) != 0 || from != 0 || to != 0 {
			t.Errorf("of nothing %d: %v, %d, %d", at, Is(nil, at), from, to)
		}
	}
}

// 17.3: there, and back.
func TestThereAndBack(t *testing.T) {
	l := []rune{0x65, 0x301, 0x61, 0xd, 0xa, 0x1f1e9, 0x1f1ea, 0x1f1e9}
	there := []int{0}
	for at := 0; at < len(l); {
		at = Next(l, at)
		there = append(there, at)
	}
	for i := len(there) - 1; i > 0; i-- {
		if Prev(l, there[i]) != there[i-1] || !Is(l, there[i]) {
			t.Errorf("ahead of %d stands %d", there[i], Prev(l, there[i]))
		}
	}
	if len(there) != grapheme.Count(l...)+1 {
		t.Error(there)
	}
}
