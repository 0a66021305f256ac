package pict

import (
	"math"
	"strconv"
	"strings"
	"testing"

	"linotype/api"
	"linotype/gcb"
	"linotype/spans"
)

const pictText = "a9, ae, 203c, 2049, 2122, 2139, 2194 to 2199, 21a9 to 21aa, 231a to 231b, 2328, 2388, 23cf, 23e9 to 23f3, 23f8 to 23fa, 24c2, 25aa to 25ab, 25b6, 25c0, 25fb to 25fe, 2600 to 2605, 2607 to 2612, 2614 to 2685, 2690 to 2705, 2708 to 2712, 2714, 2716, 271d, 2721, 2728, 2733 to 2734, 2744, 2747, 274c, 274e, 2753 to 2755, 2757, 2763 to 2767, 2795 to 2797, 27a1, 27b0, 27bf, 2934 to 2935, 2b05 to 2b07, 2b1b to 2b1c, 2b50, 2b55, 3030, 303d, 3297, 3299, 1f000 to 1f0ff, 1f10d to 1f10f, 1f12f, 1f16c to 1f171, 1f17e to 1f17f, 1f18e, 1f191 to 1f19a, 1f1ad to 1f1e5, 1f201 to 1f20f, 1f21a, 1f22f, 1f232 to 1f23a, 1f23c to 1f23f, 1f249 to 1f3fa, 1f400 to 1f53d, 1f546 to 1f64f, 1f680 to 1f6ff, 1f774 to 1f77f, 1f7d5 to 1f7ff, 1f80c to 1f80f, 1f848 to 1f84f, 1f85a to 1f85f, 1f888 to 1f88f, 1f8ae to 1f8ff, 1f90c to 1f93a, 1f93c to 1f945, 1f947 to 1faff, 1fc00 to 1fffd"

// stretches reads the chapter's words: numbers to the base 16, from one to another.
func stretches(t *testing.T, text string) [][2]rune {
	var l [][2]rune
	for _, part := range strings.Split(text, ", ") {
		lo, hi, two := strings.Cut(part, " to ")
		if !two {
			hi = lo
		}
		a, err1 := strconv.ParseInt(lo, 16, 32)
		b, err2 := strconv.ParseInt(hi, 16, 32)
		if err1 != nil || err2 != nil {
			t.Fatal(part)
		}
		l = append(l, [2]rune{rune(a), rune(b)})
	}
	return l
}

func table(t *testing.T) map[rune]bool {
	all := map[rune]bool{}
	for _, s := range stretches(t, pictText) {
		for r := s[0]; r <= s[1]; r++ {
			all[r] = true
		}
	}
	return all
}

// 10.1, 10.2: all numbers.
func TestIs(t *testing.T) {
	all := table(t)
	for r := rune(-300); r <= 0x110100; r++ {
		if Is(r) != all[r] {
			t.Fatalf("Is(%x) is %v", r, Is(r))
		}
		if Is(r) && gcb.Of(r) != api.Other {
			t.Errorf("%x is a picture of the class %d", r, gcb.Of(r))
		}
	}
	if Is(math.MinInt32) || Is(math.MaxInt32) || Is(0x1f3fb) || !Is(0xa9) || !Is(0x1f600) {
		t.Error("an edge is wrong")
	}
}

// 10.1: the spans are the table's, and the fewest.
func TestSpans(t *testing.T) {
	all := table(t)
	l := Spans()
	if !spans.Right(l) || len(spans.Fewest(l)) != len(l) || spans.Count(l) != len(all) {
		t.Errorf("%d spans of %d numbers", len(l), spans.Count(l))
	}
	for r := range all {
		if spans.Find(l, int(r)) != 1 {
			t.Fatalf("the spans lack %x", r)
		}
	}
	l[0].Val = 2
	if Spans()[0].Val != 1 {
		t.Error("spans are handed out twice")
	}
}
