package pack

import (
	"math"
	"math/rand"
	"slices"
	"testing"

	"linotype/api"
	"linotype/spans"
)

// 7.1: of the chapter's examples.
func TestExamples(t *testing.T) {
	none := Build(nil)
	if none.Blocks() != 1 || none.Block(0) != 0 || none.Block(4351) != 0 || len(none.Spans()) > 0 {
		t.Error(none.Blocks(), none.Spans())
	}
	l := []api.Span{{Lo: 1, Hi: 300, Val: 7}}
	b := Build(l)
	if b.Blocks() != 3 || b.Block(0) != 0 || b.Block(1) != 1 || b.Block(2) != 2 || b.Block(3) != 2 || b.Block(4351) != 2 {
		t.Error(b.Blocks())
	}
	for n, want := range map[int]int{0: 0, 1: 7, 255: 7, 256: 7, 300: 7, 301: 0, -1: 0, 0x10ffff: 0, 0x110000: 0, math.MaxInt: 0, math.MinInt: 0} {
		if b.Get(n) != want {
			t.Errorf("Get(%d) is %d", n, b.Get(n))
		}
	}
	if !slices.Equal(b.Spans(), l) {
		t.Error(b.Spans())
	}
}

// 7.1: numbers from 0 on.
func TestFirst(t *testing.T) {
	l := []api.Span{{Lo: 0, Hi: 0, Val: 1}, {Lo: 256, Hi: 511, Val: 2}}
	b := Build(l)
	if b.Get(0) != 1 || b.Get(1) != 0 || b.Get(255) != 0 || b.Get(256) != 2 || b.Blocks() != 3 || !slices.Equal(b.Spans(), l) {
		t.Error(b.Get(0), b.Blocks(), b.Spans())
	}
}

// 7.1: pages that there are, and others.
func TestBlock(t *testing.T) {
	b := Build([]api.Span{{Lo: 0x10ffff, Hi: 0x10ffff, Val: 65535}})
	for page, want := range map[int]int{-1: -1, 0: 0, 4350: 0, 4351: 1, 4352: -1, math.MaxInt: -1, math.MinInt: -1} {
		if b.Block(page) != want {
			t.Errorf("Block(%d) is %d", page, b.Block(page))
		}
	}
	if b.Get(0x10ffff) != 65535 || b.Get(0x10fffe) != 0 {
		t.Error(b.Get(0x10ffff))
	}
}

// 7.1: what is no right list, and a nil table.
func TestWrong(t *testing.T) {
	for _, l := range [][]api.Span{{{Lo: -1, Hi: 3, Val: 1}}, {{Lo: 0, Hi: 3, Val: 0}}, {{Lo: 5, Hi: 6, Val: 1}, {Lo: 6, Hi: 7, Val: 1}}, {{Lo: 0, Hi: 0x110000, Val: 1}}} {
		if Build(l) != nil {
			t.Errorf("%v is built", l)
		}
	}
	var none *Table
	if none.Get(0) != 0 || none.Block(0) != -1 || none.Blocks() != 0 || len(none.Spans()) > 0 {
		t.Error("a nil table has something")
	}
}

// 7.1: what lies behind the list that was given has no influence later on.
func TestMemory(t *testing.T) {
	l := []api.Span{{Lo: 1, Hi: 2, Val: 3}}
	b := Build(l)
	l[0].Val = 9
	b.Spans()[0].Val = 8
	if b.Get(1) != 3 || !slices.Equal(b.Spans(), []api.Span{{Lo: 1, Hi: 2, Val: 3}}) {
		t.Error(b.Spans())
	}
}

func someList(rnd *rand.Rand) []api.Span {
	var l []api.Span
	for n := rnd.Intn(300); n <= api.MaxRune && len(l) < 40; {
		size := 1 << rnd.Intn(14)
		hi := min(n+rnd.Intn(size), api.MaxRune)
		l = append(l, api.Span{Lo: n, Hi: hi, Val: 1 + rnd.Intn(2)})
		n = hi + 1 + rnd.Intn(2)*rnd.Intn(1<<rnd.Intn(14))
	}
	return l
}

// 7.1, 7.2: a table tells the list's values; blocks are alike just if they are one; they come in the order of pages.
func TestLists(t *testing.T) {
	rnd := rand.New(rand.NewSource(7))
	for range 12 {
		l := someList(rnd)
		b := Build(l)
		if !slices.Equal(b.Spans(), spans.Fewest(l)) {
			t.Fatalf("%v: %v", l, b.Spans())
		}
		byValues := map[[256]int]int{}
		for p := range 4352 {
			var values [256]int
			for i := range values {
				values[i] = b.Get(p*256 + i)
			}
			n, known := byValues[values]
			if !known {
				n = len(byValues)
				byValues[values] = n
			}
			if b.Block(p) != n {
				t.Fatalf("%v: the block of page %d is %d, not %d", l, p, b.Block(p), n)
			}
		}
		if b.Blocks() != len(byValues) || b.Blocks() > 3*len(l)+1 {
			t.Fatalf("%v: %d blocks", l, b.Blocks())
		}
		for range 2000 {
			if n := rnd.Intn(api.MaxRune + 1); b.Get(n) != spans.Find(l, n) {
				t.Fatalf("%v: Get(%d) is %d", l, n, b.Get(n))
			}
		}
	}
}
