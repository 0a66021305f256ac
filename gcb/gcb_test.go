package gcb

import (
	"math"
	"strconv"
	"strings"
	"testing"

	"linotype/api"
	"linotype/hangul"
	"linotype/spans"
)

const (
	controlText = "0 to 9, b to c, e to 1f, 7f to 9f, ad, 61c, 180e, 200b, 200e to 200f, 2028 to 202e, 2060 to 206f, feff, fff0 to fffb, e0000 to e001f, e0080 to e00ff, e01f0 to e0fff"
	extendText  = "300 to 36f, 483 to 489, 591 to 5bd, 5bf, 5c1 to 5c2, 5c4 to 5c5, 5c7, 610 to 61a, 64b to 65f, 670, 6d6 to 6dc, 6df to 6e4, 6e7 to 6e8, 6ea to 6ed, 711, 730 to 74a, 7a6 to 7b0, 7eb to 7f3, 816 to 819, 81b to 823, 8d3 to 8e1, 8e3 to 902, 93a, 93c, 941 to 948, 94d, 951 to 957, 962 to 963, 981, 9bc, 9be, 9c1 to 9c4, 9cd, 9d7, 9e2 to 9e3, a01 to a02, a3c, a41 to a42, a47 to a48, a4b to a4d, abc, ac1 to ac5, acd, b3c, b3e to b3f, b41 to b44, b4d, b56 to b57, c3c, c3e to c40, c46 to c48, c4a to c4d, ccc to ccd, d3e, d41 to d44, d4d, e31, e34 to e3a, e47 to e4e, eb1, eb4 to ebc, f18 to f19, f71 to f7e, 135d to 135f, 1ab0 to 1ace, 1dc0 to 1dff, 200c, 20d0 to 20f0, 302a to 302f, 3099 to 309a, a66f to a672, fb1e, fe00 to fe0f, fe20 to fe2f, 1f3fb to 1f3ff, e0020 to e007f, e0100 to e01ef"
	prependText = "600 to 605, 6dd, 70f, 890 to 891, 8e2, d4e, 110bd, 110cd"
	spacingText = "903, 93b, 93e to 940, 949 to 94c, 94e to 94f, 982 to 983, 9bf to 9c0, 9c7 to 9c8, 9cb to 9cc, a03, a3e to a40, a83, abe to ac0, ac9, b02 to b03, b40, b47 to b48, c01 to c03, c41 to c44, d02 to d03, d3f to d40, d46 to d48, e33, eb3, f3e to f3f, 103b to 103c"
)

// stretches reads the chapter's words: numbers to the base 16, from one to another.
func stretches(t *testing.T, text string) [][2]rune {
	var l [][2]rune
	for _, part := range strings.Split(text, ", ") {
		lo, hi, two := strings.Cut(part, " to ")
		if !two {
			hi = lo
		}
		a, err1 := strconv.ParseInt(lo, 16, 32)
		b, err2 := strconv.ParseInt(hi, 16, 32)
		if err1 != nil || err2 != nil {
			t.Fatal(part)
		}
		l = append(l, [2]rune{rune(a), rune(b)})
	}
	return l
}

// table is the chapter's classes of all numbers.
func table(t *testing.T) map[rune]int {
	classes := map[rune]int{}
	for class, text := range map[int]string{
		api.CR: "d", api.LF: "a", api.Control: controlText, api.Extend: extendText,
		api.ZWJ: "200d", api.RI: "1f1e6 to 1f1ff", api.Prepend: prependText, api.Spacing: spacingText,
	} {
		for _, s := range stretches(t, text) {
			for r := s[0]; r <= s[1]; r++ {
				if classes[r] != 0 {
					t.Errorf("%x has two classes", r)
				}
				classes[r] = class
			}
		}
	}
	return classes
}

// 9.1, 9.2: all numbers.
func TestOf(t *testing.T) {
	classes := table(t)
	for r := rune(-300); r <= 0x110100; r++ {
		want, listed := classes[r]
		if listed && hangul.Class(r) != api.Other {
			t.Errorf("%x stands in both chapters", r)
		}
		if !listed {
			want = hangul.Class(r)
		}
		if Of(r) != want {
			t.Fatalf("Of(%x) is %d, not %d", r, Of(r), want)
		}
	}
	for _, r := range []rune{math.MinInt32, math.MaxInt32} {
		if Of(r) != api.Other {
			t.Errorf("Of(%x) is %d", r, Of(r))
		}
	}
}

// 9.1: the spans are the table's, and the fewest.
func TestSpans(t *testing.T) {
	classes := table(t)
	l := Spans()
	if !spans.Right(l) || len(spans.Fewest(l)) != len(l) || spans.Count(l) != len(classes) {
		t.Errorf("%d spans of %d numbers", len(l), spans.Count(l))
	}
	for r, class := range classes {
		if got := spans.Find(l, int(r)); got != class {
			t.Fatalf("the spans have %d of %x, not %d", got, r, class)
		}
	}
	l[0].Val = api.RI
	if Spans()[0].Val == api.RI {
		t.Error("spans are handed out twice")
	}
}
