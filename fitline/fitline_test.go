package fitline

import (
	"math"
	"math/rand"
	"slices"
	"testing"

	"linotype/grapheme"
	"linotype/measure"
)

// 22.1: the chapter's example, and edges.
func TestLines(t *testing.T) {
	for _, x := range []struct {
		l    []rune
		w    int
		want [][]rune
	}{
		{[]rune{0x61, 0x4e00, 0x62}, 2, [][]rune{{0x61}, {0x4e00}, {0x62}}},
		{[]rune{0x61, 0x4e00, 0x62}, 3, [][]rune{{0x61, 0x4e00}, {0x62}}},
		{nil, 5, [][]rune{nil}},
		{[]rune{0xa, 0xd, 0x9}, 5, [][]rune{nil}},
		{[]rune{0x61, 0xa, 0x62}, 5, [][]rune{{0x61, 0x62}}},
		{[]rune{0x4e00, 0x61, 0x4e00}, 1, [][]rune{{0x4e00}, {0x61}, {0x4e00}}},
		{[]rune{0x61, 0x62}, 0, [][]rune{{0x61}, {0x62}}},
		{[]rune{0x61, 0x62}, math.MinInt, [][]rune{{0x61}, {0x62}}},
		{[]rune{0x61, 0x62, 0x301}, math.MaxInt, [][]rune{{0x61, 0x62, 0x301}}},
		{[]rune{-1, 0x110000}, 1, [][]rune{{-1}, {0x110000}}},
	} {
		if got := Lines(x.l, x.w); !slices.EqualFunc(got, x.want, slices.Equal[[]rune]) || Count(x.l, x.w) != len(x.want) {
			t.Errorf("Lines(%x, %d): %x", x.l, x.w, got)
		}
	}
}

// 22.1: the greatest width; clusters stand whole.
func TestWidest(t *testing.T) {
	l := slices.Repeat([]rune{0x61}, 1025)
	if got := Lines(l, 5000); len(got) != 2 || len(got[0]) != 1024 {
		t.Error(len(got))
	}
	long := append([]rune{0x61}, slices.Repeat([]rune{0x301}, 30)...)
	if got := Lines(long, 1); len(got) != 1 || !slices.Equal(got[0], long) {
		t.Errorf("%x", got)
	}
}

// 22.1: lines are memory of their own.
func TestMemory(t *testing.T) {
	l := []rune{0x61, 0x62}
	got := Lines(l, 1)
	_ = append(got[0], 0x63)
	got[0][0] = 0x64
	if l[0] != 0x61 || got[1][0] != 0x62 {
		t.Errorf("%x, %x", l, got)
	}
}

// 22.2: of texts without what is silent.
func TestTexts(t *testing.T) {
	kinds := []rune{0x61, 0x301, 0x4e00, 0x2764, 0xfe0f, 0x1f1e9, 0x1f468, 0x200d}
	rnd := rand.New(rand.NewSource(22))
	for range 5000 {
		l := make([]rune, rnd.Intn(12))
		for i := range l {
			l[i] = kinds[rnd.Intn(len(kinds))]
		}
		w := 1 + rnd.Intn(5)
		lines := Lines(l, w)
		if len(lines) != Count(l, w) || !slices.Equal(slices.Concat(lines...), l) {
			t.Fatalf("%x, %d wide: %x", l, w, lines)
		}
		for i, line := range lines {
			if w > 1 && measure.Columns(line...) > w || w == 1 && grapheme.Count(line...) > 1 {
				t.Fatalf("%x, %d wide: line %d is %x", l, w, i, line)
			}
			if i+1 == len(lines) {
				break
			}
			next := grapheme.Clusters(lines[i+1]...)[0]
			if measure.Columns(line...)+measure.Columns(next...) <= w {
				t.Fatalf("%x, %d wide: line %d has room for %x", l, w, i, next)
			}
		}
	}
}
