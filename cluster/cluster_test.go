package cluster

import (
	"math"
	"math/rand"
	"slices"
	"testing"
)

func numbers(n int) []rune {
	l := make([]rune, n)
	for i := range l {
		l[i] = rune(i + 0x61)
	}
	return l
}

// 20.1: from none to sixteen, and more.
func TestAdd(t *testing.T) {
	var c Cluster
	for i := range 20 {
		if c.Len() != min(i, 16) || c.Full() != (i >= 16) || !slices.Equal(c.Text(), numbers(min(i, 16))) {
			t.Errorf("behind %d: %d, %v, %x", i, c.Len(), c.Full(), c.Text())
		}
		if c != Of(numbers(i)...) {
			t.Errorf("Of %d numbers is another one", i)
		}
		before := c
		if got := c.Add(rune(i + 0x61)); got != (i < 16) || !got && c != before {
			t.Errorf("Add number %d: %v", i, got)
		}
	}
}

// 20.1: whatever numbers; a nil cluster.
func TestEdges(t *testing.T) {
	l := []rune{math.MinInt32, -1, 0, 0xd800, 0x110000, math.MaxInt32}
	if c := Of(l...); !slices.Equal(c.Text(), l) {
		t.Errorf("%x", c.Text())
	}
	if c := Of(); c != (Cluster{}) || c.Len() != 0 || len(c.Text()) > 0 || c.Full() {
		t.Error("the empty one is not empty")
	}
	var none *Cluster
	if none.Add(0x61) || none.Len() != 0 || len(none.Text()) > 0 || none.Full() {
		t.Error("a nil cluster has something")
	}
}

// 20.2: the same just if the texts are; a copy is another one.
func TestSame(t *testing.T) {
	rnd := rand.New(rand.NewSource(20))
	for range 5000 {
		a, b := make([]rune, rnd.Intn(3)), make([]rune, rnd.Intn(3))
		for i := range a {
			a[i] = rune(rnd.Intn(2))
		}
		for i := range b {
			b[i] = rune(rnd.Intn(2))
		}
		if (Of(a...) == Of(b...)) != slices.Equal(a, b) {
			t.Fatalf("%x and %x", a, b)
		}
	}
	a := Of(0x61)
	b := a
	b.Add(0x62)
	a.Text()[0] = 0x63
	if !slices.Equal(a.Text(), []rune{0x61}) || !slices.Equal(b.Text(), []rune{0x61, 0x62}) {
		t.Errorf("%x, %x", a.Text(), b.Text())
	}
}
