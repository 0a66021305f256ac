package conj

import (
	"math"
	"strconv"
	"strings"
	"testing"

	"linotype/api"
	"linotype/gcb"
	"linotype/spans"
)

const (
	consonantText = "915 to 939, 958 to 95f, 978 to 97f, 995 to 9a8, 9aa to 9b0, 9b2, 9b6 to 9b9, 9dc to 9dd, 9df, 9f0 to 9f1, a95 to aa8, aaa to ab0, ab2 to ab3, ab5 to ab9, af9, b15 to b28, b2a to b30, b32 to b33, b35 to b39, b5c to b5d, b5f, b71, c15 to c28, c2a to c39, c58 to c5a, d15 to d3a"
	linkerText    = "94d, 9cd, acd, b4d, c4d, d4d"
	joinerText    = "300 to 36f, 483 to 487, 591 to 5bd, 610 to 61a, 64b to 65f, 93c, 951 to 954, 9bc, abc, b3c, c3c, 1ab0 to 1abd, 1dc0 to 1dff, 200d, 20d0 to 20dc, 302a to 302f, 3099 to 309a, fe20 to fe2f"
)

// stretches reads the chapter's words: numbers to the base 16, from one to another.
func stretches(t *testing.T, text string) [][2]rune {
	var l [][2]rune
	for _, part := range strings.Split(text, ", ") {
		lo, hi, two := strings.Cut(part, " to ")
		if !two {
			hi = lo
		}
		a, err1 := strconv.ParseInt(lo, 16, 32)
		b, err2 := strconv.ParseInt(hi, 16, 32)
		if err1 != nil || err2 != nil {
			t.Fatal(part)
		}
		l = append(l, [2]rune{rune(a), rune(b)})
	}
	return l
}

// table is the chapter's values of all numbers.
func table(t *testing.T) map[rune]int {
	all := map[rune]int{}
	for val, text := range map[int]string{api.Consonant: consonantText, api.Linker: linkerText, api.Joiner: joinerText} {
		for _, s := range stretches(t, text) {
			for r := s[0]; r <= s[1]; r++ {
				all[r] = val
			}
		}
	}
	return all
}

// 11.1, 11.2: all numbers.
func TestOf(t *testing.T) {
	all := table(t)
	for r := rune(-300); r <= 0x110100; r++ {
		if Of(r) != all[r] {
			t.Fatalf("Of(%x) is %d, not %d", r, Of(r), all[r])
		}
		if class := gcb.Of(r); Of(r) > api.Consonant && class != api.Extend && class != api.ZWJ {
			t.Errorf("%x is in conjuncts, and of the class %d", r, class)
		}
	}
	for _, r := range []rune{math.MinInt32, math.MaxInt32} {
		if Of(r) != 0 {
			t.Errorf("Of(%x) is %d", r, Of(r))
		}
	}
}

// 11.1: the spans are the table's, and the fewest.
func TestSpans(t *testing.T) {
	all := table(t)
	l := Spans()
	if !spans.Right(l) || len(spans.Fewest(l)) != len(l) || spans.Count(l) != len(all) {
		t.Errorf("%d spans of %d numbers", len(l), spans.Count(l))
	}
	for _, s := range l {
		for n := s.Lo; n <= s.Hi; n++ {
			if s.Val != all[rune(n)] {
				t.Fatalf("the spans have %d of %x", s.Val, n)
			}
		}
	}
	l[0].Val = 99
	if Spans()[0].Val == 99 {
		t.Error("spans are handed out twice")
	}
}
