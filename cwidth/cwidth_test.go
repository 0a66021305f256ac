package cwidth

import (
	"math"
	"math/rand"
	"testing"

	"linotype/api"
	"linotype/basew"
	"linotype/ucd"
)

// width is that of a row, by the chapter's words.
func width(l []rune) int {
	for i, r := range l {
		p := ucd.Of(r)
		if basew.Rune(r) == 2 || i > 0 && (r == 0xfe0f && ucd.Of(l[i-1]).Pict || p.Pict || p.Break == api.RI) {
			return 2
		}
	}
	return 1
}

// 19.1: rows, rule by rule.
func TestOf(t *testing.T) {
	for _, x := range []struct {
		l    []rune
		want int
	}{
		{nil, 1},
		{[]rune{0x2764}, 1},
		{[]rune{0x2764, 0xfe0f}, 2},
		{[]rune{0x2764, 0x301, 0xfe0f}, 1},
		{[]rune{0x61, 0xfe0f}, 1},
		{[]rune{0xfe0f}, 1},
		{[]rune{0x1f1e9}, 1},
		{[]rune{0x1f1e9, 0x1f1ea}, 2},
		{[]rune{0x65, 0x301}, 1},
		{[]rune{0x4e00}, 2},
		{[]rune{0x4e00, 0xfe0e}, 2},
		{[]rune{0x2764, 0xfe0e}, 1},
		{[]rune{0x2764, 0xfe0e, 0xfe0f}, 1},
		{[]rune{0x61, 0x2764}, 2},
		{[]rune{0x2764, 0x200d, 0x2764}, 2},
		{[]rune{0x301, 0x1f3fb}, 1},
		{[]rune{0x1f468}, 2},
		{[]rune{0x1100, 0x1161}, 2},
		{[]rune{0x1161}, 1},
		{[]rune{-1, 0x110000, math.MinInt32, math.MaxInt32}, 1},
		{[]rune{0xa}, 1},
	} {
		if got := Of(x.l...); got != x.want {
			t.Errorf("%x is %d wide", x.l, got)
		}
	}
}

// 19.2, 19.3: a gauge, step by step, and from the begin again.
func TestGauge(t *testing.T) {
	kinds := []rune{0x61, 0x301, 0xfe0f, 0xfe0e, 0x2764, 0x200d, 0x1f1e9, 0xa9, 0x915, 0x1161, 0x4e00}
	rnd := rand.New(rand.NewSource(19))
	var g Gauge
	for range 5000 {
		var l []rune
		last := 1
		for range 1 + rnd.Intn(6) {
			r := kinds[rnd.Intn(len(kinds)-rnd.Intn(2))]
			l = append(l, r)
			got := g.Step(r, ucd.Of(r))
			if got != width(l) || got != Of(l...) || got < last {
				t.Fatalf("%x is %d wide, %d behind %d", l, width(l), got, last)
			}
			last = got
		}
		g.Reset()
	}
}

// 19.2: what counts is the property that is told.
func TestGaugeProp(t *testing.T) {
	var g Gauge
	if g.Step(0x61, api.Prop{Pict: true}) != 1 || g.Step(0xfe0f, api.Prop{}) != 2 {
		t.Error("61 is no picture, though it was told to be one")
	}
	g.Reset()
	if g.Step(0x61, api.Prop{East: api.Full}) != 2 || g.Step(0x61, api.Prop{}) != 2 {
		t.Error("61 is not wide, though it was told to be")
	}
	g = Gauge{}
	if g.Step(0x61, api.Prop{}) != 1 || g.Step(0x61, api.Prop{Break: api.RI}) != 2 {
		t.Error("61 is no RI, though it was told to be one")
	}
}

// 19.2: a nil gauge.
func TestNil(t *testing.T) {
	var g *Gauge
	g.Reset()
	if g.Step(0x4e00, ucd.Of(0x4e00)) != 1 {
		t.Error("a nil gauge tells something")
	}
}
