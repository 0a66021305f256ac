package grapheme

import (
	"math"
	"math/rand"
	"slices"
	"testing"

	"linotype/seg"
	"linotype/ucd"
)

// someText is numbers that join in many ways, controls, and what is no scalar value.
func someText(rnd *rand.Rand, n int) []rune {
	kinds := []rune{0x61, 0x62, 0x301, 0x200d, 0xfe0f, 0xd, 0xa, 0, 0x9f, 0x1f1e9, 0x1f1ea, 0x1f468, 0x1f3fb, 0x2764, 0x915, 0x94d, 0x93c, 0x1100, 0x1161, 0x11a8, 0xac00, 0xac01, 0x600, 0x903, 0x4e00, 0xfffd, 0xd800, -1, 0x110000}
	l := make([]rune, n)
	for i := range l {
		l[i] = kinds[rnd.Intn(len(kinds))]
	}
	return l
}

func same(a, b [][]rune) bool {
	return slices.EqualFunc(a, b, slices.Equal[[]rune])
}

// 16.1: the chapter's examples, and edges.
func TestExamples(t *testing.T) {
	for _, x := range []struct {
		l    []rune
		want [][]rune
	}{
		{nil, nil},
		{[]rune{0x65, 0x301, 0x61}, [][]rune{{0x65, 0x301}, {0x61}}},
		{[]rune{0x1f468, 0x200d, 0x1f469, 0x200d, 0x1f467}, [][]rune{{0x1f468, 0x200d, 0x1f469, 0x200d, 0x1f467}}},
		{[]rune{0xd, 0xa, 0xd, 0xd}, [][]rune{{0xd, 0xa}, {0xd}, {0xd}}},
		{[]rune{0x301, 0x301}, [][]rune{{0x301, 0x301}}},
		{[]rune{math.MinInt32, 0x301, math.MaxInt32}, [][]rune{{math.MinInt32, 0x301}, {math.MaxInt32}}},
		{[]rune{0x1f1e9, 0x1f1ea, 0x1f1e9}, [][]rune{{0x1f1e9, 0x1f1ea}, {0x1f1e9}}},
	} {
		if got := Clusters(x.l...); !same(got, x.want) {
			t.Errorf("Clusters(%x): %x", x.l, got)
		}
	}
	if got := Starts(0x65, 0x301, 0x61); !slices.Equal(got, []int{0, 2}) {
		t.Errorf("Starts: %d", got)
	}
	if Count() != 0 || len(Starts()) > 0 || Count(0x65, 0x301, 0x61) != 2 {
		t.Error("Count is wrong")
	}
}

// 16.1, 16.2: all calls tell the same, by the states of chapter 15; clusters are the row.
func TestRows(t *testing.T) {
	rnd := rand.New(rand.NewSource(16))
	for range 5000 {
		l := someText(rnd, rnd.Intn(12))
		var starts []int
		var s seg.State
		for i, r := range l {
			if !s.Step(ucd.Of(r)) {
				starts = append(starts, i)
			}
		}
		clusters := Clusters(l...)
		if !slices.Equal(Starts(l...), starts) || Count(l...) != len(starts) || len(clusters) != len(starts) {
			t.Fatalf("%x: starts %d, clusters %x", l, Starts(l...), clusters)
		}
		if !slices.Equal(slices.Concat(clusters...), l) {
			t.Fatalf("%x: clusters %x", l, clusters)
		}
		i := 0
		for at, c := range All(l) {
			if at != starts[i] || !slices.Equal(c, clusters[i]) || len(c) == 0 || cap(c) != len(c) {
				t.Fatalf("%x: cluster %d is %x at %d", l, i, c, at)
			}
			i++
		}
		if i != len(starts) {
			t.Fatalf("%x: All hands out %d", l, i)
		}
	}
}

// 16.1: as far as one likes, and anew; what is written into what is handed out changes nothing else.
func TestAll(t *testing.T) {
	l := []rune{0x61, 0x301, 0x62, 0x63, 0x301}
	all := All(l)
	l[2] = 0x301
	for range 2 {
		var got [][]rune
		for _, c := range all {
			got = append(got, slices.Clone(c))
			clear(c)
			_ = append(c, 0x301)
		}
		if !same(got, [][]rune{{0x61, 0x301}, {0x62}, {0x63, 0x301}}) {
			t.Errorf("%x", got)
		}
	}
	count := 0
	for range all {
		count++
		if count == 2 {
			break
		}
	}
	if count != 2 || !slices.Equal(l, []rune{0x61, 0x301, 0x301, 0x63, 0x301}) {
		t.Error(count, l)
	}
}

// 16.1: clusters are memory of their own.
func TestMemory(t *testing.T) {
	l := []rune{0x61, 0x62}
	c := Clusters(l...)
	_ = append(c[0], 0x7a)
	c[0][0] = 0x79
	if l[0] != 0x61 || c[1][0] != 0x62 {
		t.Errorf("%x, %x", l, c)
	}
}

// 16.2: two rows, of which the second one begins with what breaks.
func TestTwoRows(t *testing.T) {
	rnd := rand.New(rand.NewSource(162))
	for range 5000 {
		a := someText(rnd, rnd.Intn(6))
		b := append([]rune{[]rune{0xd, 0xa, 0, 0x9f, 0x200b}[rnd.Intn(5)]}, someText(rnd, rnd.Intn(6))...)
		if len(a) > 0 && a[len(a)-1] == 0xd && b[0] == 0xa {
			continue
		}
		both := Clusters(slices.Concat(a, b)...)
		if !same(both, slices.Concat(Clusters(a...), Clusters(b...))) {
			t.Fatalf("%x and %x: %x", a, b, both)
		}
	}
}
