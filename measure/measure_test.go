package measure

import (
	"math"
	"math/rand"
	"slices"
	"testing"

	"linotype/api"
	"linotype/cwidth"
	"linotype/grapheme"
)

func someText(rnd *rand.Rand, n int) []rune {
	kinds := []rune{0x61, 0x301, 0x200d, 0xfe0f, 0xd, 0xa, 0, 0x9f, 0x1f1e9, 0x1f468, 0x2764, 0x4e00, 0xac00, 0x600, 0x200b, -1, 0x110000}
	l := make([]rune, n)
	for i := range l {
		l[i] = kinds[rnd.Intn(len(kinds))]
	}
	return l
}

func silent(r rune) bool {
	return r >= 0 && r < 0x20 || r >= 0x7f && r < 0xa0
}

// itemsOf are a text's pieces, by the chapter's words.
func itemsOf(l []rune) []api.Item {
	var items []api.Item
	for _, c := range grapheme.Clusters(l...) {
		if silent(c[0]) {
			continue
		}
		c = c[:min(len(c), 16)]
		items = append(items, api.Item{Wide: cwidth.Of(c...), Text: c})
	}
	return items
}

func sameItem(a, b api.Item) bool {
	return a.Wide == b.Wide && slices.Equal(a.Text, b.Text)
}

// 21.1, 21.2: the chapter's examples, and edges.
func TestExamples(t *testing.T) {
	for _, x := range []struct {
		l    []rune
		want int
	}{
		{nil, 0}, {[]rune{0x61, 0x4e00, 0xa}, 3}, {[]rune{0xd, 0xa}, 0}, {[]rune{0x301}, 1}, {[]rune{0x200b}, 1}, {[]rune{-1, 0x110000}, 2},
		{[]rune{0xa, 0x301}, 1}, {[]rune{0x2764, 0xfe0f}, 2}, {[]rune{0x9f, 0x61, 0x7f}, 1},
	} {
		if got := Columns(x.l...); got != x.want {
			t.Errorf("%x is %d wide", x.l, got)
		}
	}
	for _, x := range []struct {
		l          []rune
		w, n, used int
	}{
		{[]rune{0x61, 0x4e00, 0x62}, 2, 1, 1}, {[]rune{0x61, 0x4e00, 0x62}, 3, 2, 3}, {[]rune{0x61, 0x301}, 1, 2, 1}, {[]rune{0x61}, 0, 0, 0},
		{[]rune{0xa, 0x61}, 0, 1, 0}, {[]rune{0x61, 0xa, 0x62}, 1, 2, 1}, {[]rune{0xa}, -1, 0, 0}, {nil, 5, 0, 0}, {nil, math.MinInt, 0, 0},
		{[]rune{0x61, 0x62}, math.MaxInt, 2, 2}, {[]rune{0x61}, math.MinInt, 0, 0},
	} {
		if n, used := Head(x.l, x.w); n != x.n || used != x.used {
			t.Errorf("Head(%x, %d): %d, %d", x.l, x.w, n, used)
		}
	}
}

// 21.1: of more than sixteen numbers the first sixteen count.
func TestLong(t *testing.T) {
	l := append([]rune{0x2764}, slices.Repeat([]rune{0x301}, 15)...)
	l = append(l, 0x200d, 0x2764)
	if grapheme.Count(l...) != 2 {
		l = append([]rune{0x2764}, slices.Repeat([]rune{0x1f3fb}, 15)...)
		l = append(l, 0x200d, 0x2764)
	}
	got := Items(l...)
	if !slices.EqualFunc(got, itemsOf(l), sameItem) || len(got[0].Text) != 16 || got[0].Wide != cwidth.Of(l[:16]...) {
		t.Errorf("%v", got)
	}
	// a picture behind the sixteenth number would make the cluster wide
	l = append([]rune{0x2764}, slices.Repeat([]rune{0x200c}, 15)...)
	l = append(l, 0x200d, 0x2764, 0x61)
	if got := Items(l...); len(got) != 2 || got[0].Wide != 1 || len(got[0].Text) != 16 || Columns(l...) != 2 {
		t.Errorf("%v", got)
	}
	if n, used := Head(l, 1); n != 18 || used != 1 {
		t.Error(n, used)
	}
}

// 21.1: rows, by definition.
func TestItems(t *testing.T) {
	rnd := rand.New(rand.NewSource(21))
	for range 5000 {
		l := someText(rnd, rnd.Intn(10))
		before := slices.Clone(l)
		want := itemsOf(l)
		wide := 0
		for _, x := range want {
			wide += x.Wide
		}
		got := Items(l...)
		if !slices.EqualFunc(got, want, sameItem) || Columns(l...) != wide {
			t.Fatalf("%x: %v, %d wide", l, got, Columns(l...))
		}
		for _, x := range got {
			clear(x.Text)
		}
		if !slices.Equal(l, before) {
			t.Fatalf("%x became %x", before, l)
		}
	}
}

// 21.2, 21.3: what Head tells is the longest that has room.
func TestHead(t *testing.T) {
	rnd := rand.New(rand.NewSource(212))
	for range 5000 {
		l := someText(rnd, rnd.Intn(10))
		w := rnd.Intn(8) - 1
		wantN, wantUsed := 0, 0
		for _, end := range append(grapheme.Starts(l...), len(l)) {
			if wide := columnsTo(l, end); wide <= w && end >= wantN {
				wantN, wantUsed = end, wide
			}
		}
		if n, used := Head(l, w); n != wantN || used != wantUsed {
			t.Fatalf("Head(%x, %d): %d, %d, not %d, %d", l, w, n, used, wantN, wantUsed)
		}
	}
}

// columnsTo is how wide the clusters ahead of a place are.
func columnsTo(l []rune, end int) int {
	wide := 0
	for at, c := range grapheme.All(l) {
		if at < end && !silent(c[0]) {
			wide += cwidth.Of(c[:min(len(c), 16)]...)
		}
	}
	return wide
}
