package east

import (
	"math"
	"strconv"
	"strings"
	"testing"

	"linotype/api"
	"linotype/spans"
)

const (
	wideText = "1100 to 115f, 231a to 231b, 2329 to 232a, 23e9 to 23ec, 23f0, 23f3, 25fd to 25fe, 2614 to 2615, 2648 to 2653, 267f, 2693, 26a1, 26aa to 26ab, 26bd to 26be, 26c4 to 26c5, 26ce, 26d4, 26ea, 26f2 to 26f3, 26f5, 26fa, 26fd, 2705, 270a to 270b, 2728, 274c, 274e, 2753 to 2755, 2757, 2795 to 2797, 27b0, 27bf, 2b1b to 2b1c, 2b50, 2b55, 2e80 to 2e99, 2e9b to 2ef3, 2f00 to 2fd5, 2ff0 to 2fff, 3001 to 303e, 3041 to 3096, 3099 to 30ff, 3105 to 312f, 3131 to 318e, 3190 to 31e3, 31f0 to 321e, 3220 to 3247, 3250 to 4dbf, 4e00 to a48c, a490 to a4c6, a960 to a97c, ac00 to d7a3, f900 to faff, fe10 to fe19, fe30 to fe52, fe54 to fe66, fe68 to fe6b, 16fe0 to 16fe4, 17000 to 187f7, 18800 to 18cd5, 1b000 to 1b122, 1f004, 1f0cf, 1f18e, 1f191 to 1f19a, 1f200 to 1f202, 1f210 to 1f23b, 1f240 to 1f248, 1f250 to 1f251, 1f260 to 1f265, 1f300 to 1f320, 1f32d to 1f335, 1f337 to 1f37c, 1f37e to 1f393, 1f3a0 to 1f3ca, 1f3cf to 1f3d3, 1f3e0 to 1f3f0, 1f3f4, 1f3f8 to 1f43e, 1f440, 1f442 to 1f4fc, 1f4ff to 1f53d, 1f54b to 1f54e, 1f550 to 1f567, 1f57a, 1f595 to 1f596, 1f5a4, 1f5fb to 1f64f, 1f680 to 1f6c5, 1f6cc, 1f6d0 to 1f6d2, 1f6d5 to 1f6d7, 1f6dc to 1f6df, 1f6eb to 1f6ec, 1f6f4 to 1f6fc, 1f7e0 to 1f7eb, 1f7f0, 1f90c to 1f93a, 1f93c to 1f945, 1f947 to 1f9ff, 1fa70 to 1fa7c, 1fa80 to 1fa88, 1fa90 to 1fabd, 1fabf to 1fac5, 1face to 1fadb, 1fae0 to 1fae8, 1faf0 to 1faf8, 20000 to 2fffd, 30000 to 3fffd"
	fullText = "3000, ff01 to ff60, ffe0 to ffe6"
	halfText = "20a9, ff61 to ffbe, ffc2 to ffc7, ffca to ffcf, ffd2 to ffd7, ffda to ffdc, ffe8 to ffee"
)

// stretches reads the chapter's words: numbers to the base 16, from one to another.
func stretches(t *testing.T, text string) [][2]rune {
	var l [][2]rune
	for _, part := range strings.Split(text, ", ") {
		lo, hi, two := strings.Cut(part, " to ")
		if !two {
			hi = lo
		}
		a, err1 := strconv.ParseInt(lo, 16, 32)
		b, err2 := strconv.ParseInt(hi, 16, 32)
		if err1 != nil || err2 != nil {
			t.Fatal(part)
		}
		l = append(l, [2]rune{rune(a), rune(b)})
	}
	return l
}

// table is the chapter's values of all numbers.
func table(t *testing.T) map[rune]int {
	all := map[rune]int{}
	for val, text := range map[int]string{api.Wide: wideText, api.Full: fullText, api.Half: halfText} {
		for _, s := range stretches(t, text) {
			for r := s[0]; r <= s[1]; r++ {
				all[r] = val
			}
		}
	}
	return all
}

// 12.1: all numbers.
func TestOf(t *testing.T) {
	all := table(t)
	for r := rune(-300); r <= 0x110100; r++ {
		if Of(r) != all[r] {
			t.Fatalf("Of(%x) is %d, not %d", r, Of(r), all[r])
		}
	}
	for _, r := range []rune{math.MinInt32, math.MaxInt32} {
		if Of(r) != 0 {
			t.Errorf("Of(%x) is %d", r, Of(r))
		}
	}
}

// 12.1: the spans are the table's, and the fewest.
func TestSpans(t *testing.T) {
	all := table(t)
	l := Spans()
	if !spans.Right(l) || len(spans.Fewest(l)) != len(l) || spans.Count(l) != len(all) {
		t.Errorf("%d spans of %d numbers", len(l), spans.Count(l))
	}
	for _, s := range l {
		for n := s.Lo; n <= s.Hi; n++ {
			if s.Val != all[rune(n)] {
				t.Fatalf("the spans have %d of %x", s.Val, n)
			}
		}
	}
	l[0].Val = 99
	if Spans()[0].Val == 99 {
		t.Error("spans are handed out twice")
	}
}
