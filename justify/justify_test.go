package justify

import (
	"math"
	"math/rand"
	"slices"
	"testing"

	"linotype/measure"
)

// 58.1: cut.
func TestCut(t *testing.T) {
	for _, x := range []struct {
		in   string
		w    int
		want string
	}{
		{"abcd", 2, "ab"}, {"abcd", 9, "abcd"}, {"abcd", 0, ""}, {"abcd", -1, ""}, {"abcd", math.MinInt, ""}, {"abcd", math.MaxInt, "abcd"},
		{"a\u4e00b", 2, "a"}, {"a\u0301b", 1, "a\u0301"}, {"\n\na", 0, "\n\n"}, {"\na", -5, "\n"}, {"", 3, ""},
	} {
		if got := string(Cut([]rune(x.in), x.w)); got != x.want {
			t.Errorf("Cut(%q, %d): %q", x.in, x.w, got)
		}
	}
	if got := Cut(slices.Repeat([]rune{0x61}, 2000), math.MaxInt); len(got) != 1024 {
		t.Error(len(got))
	}
}

// 58.1: padded; the chapter's example.
func TestPad(t *testing.T) {
	for _, x := range []struct {
		in      string
		w, side int
		want    string
	}{
		{"a", 4, 2, " a  "}, {"a", 4, 0, "a   "}, {"a", 4, 1, "   a"}, {"a", 5, 2, "  a  "}, {"a", 4, 3, "a   "}, {"a", 4, -1, "a   "}, {"a", 4, math.MaxInt, "a   "},
		{"abc", 3, 1, "abc"}, {"abcd", 3, 1, "abcd"}, {"abcd", -3, 2, "abcd"}, {"\u4e00", 3, 1, " \u4e00"}, {"a\n", 3, 0, "a\n  "}, {"", 2, 2, "  "}, {"", 0, 2, ""},
	} {
		if got := string(Pad([]rune(x.in), x.w, x.side)); got != x.want {
			t.Errorf("Pad(%q, %d, %d): %q", x.in, x.w, x.side, got)
		}
	}
	if got := Pad([]rune{0x61}, math.MaxInt, 1); len(got) != 1024 {
		t.Error(len(got))
	}
}

// 58.2: fitted; the chapter's example.
func TestFit(t *testing.T) {
	for _, x := range []struct {
		in      string
		w, side int
		mark    string
		want    string
	}{
		{"abcd", 3, 0, ".", "ab."}, {"abc", 3, 0, ".", "abc"}, {"ab", 4, 1, ".", "  ab"}, {"abcd", 3, 0, "....", "abc"}, {"abcd", 3, 0, "...", "..."}, {"abcd", 3, 0, "", "abc"},
		{"a\u4e00\u4e00", 4, 1, ".", "a\u4e00."}, {"\u4e00\u4e00", 3, 1, ".", "\u4e00."}, {"a\u4e00\u4e00", 3, 1, ".", " a."}, {"a\u4e00\u4e00", 3, 2, "", "a\u4e00"}, {"\u4e00\u4e00", 3, 1, "\u4e00\u4e00", " \u4e00"},
		{"abcd", 0, 0, ".", ""}, {"abcd", math.MinInt, 0, "", ""}, {"", 2, 0, "abc", "  "}, {"abcd", 2, 7, "\u4e00", "\u4e00"}, {"\u4e00\u4e00", 3, 2, "", "\u4e00 "},
	} {
		if got := string(Fit([]rune(x.in), x.w, x.side, []rune(x.mark)...)); got != x.want {
			t.Errorf("Fit(%q, %d, %d, %q): %q", x.in, x.w, x.side, x.mark, got)
		}
	}
}

// 58.1, 58.2: what is handed in stays.
func TestMemory(t *testing.T) {
	whole := []rune("abcdef")
	mark := []rune(".!")[:1]
	for _, got := range [][]rune{Cut(whole[:3], 2), Pad(whole[:3], 5, 0), Pad(whole[:3], 1, 0), Fit(whole[:3], 2, 0, mark...), Fit(whole[:3], 3, 0)} {
		got[0] = 'z'
		_ = append(got, 'y')
	}
	if string(whole) != "abcdef" || string(mark[:2]) != ".!" {
		t.Errorf("%s, %s", string(whole), string(mark[:2]))
	}
}

// 58.3: widths of any texts.
func TestAny(t *testing.T) {
	kinds := []rune{0x61, 0x4e00, 0x301, 0xa, 0x1f468, 0x1f1e9, 0x200d, -1}
	rnd := rand.New(rand.NewSource(58))
	for range 5000 {
		l := make([]rune, rnd.Intn(8))
		for i := range l {
			l[i] = kinds[rnd.Intn(len(kinds))]
		}
		w, side := rnd.Intn(10), rnd.Intn(4)
		if cut := Cut(l, w); measure.Columns(cut...) > w || !slices.Equal(cut, l[:len(cut)]) {
			t.Fatalf("%x cut to %d: %x", l, w, cut)
		}
		got := Pad(l, w, side)
		wide := measure.Columns(l...)
		if len(got)-len(l) != max(w-wide, 0) {
			t.Fatalf("%x padded to %d: %x", l, w, got)
		}
	}
}
