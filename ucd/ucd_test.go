package ucd

import (
	"math"
	"testing"

	"linotype/api"
	"linotype/conj"
	"linotype/east"
	"linotype/gcb"
	"linotype/pict"
)

// 13.1, 13.2, 13.3: all numbers, by the tables, by their codes, and in a book.
func TestOf(t *testing.T) {
	book := New()
	for r := rune(-300); r <= 0x110100; r++ {
		want := api.Prop{Break: gcb.Of(r), Pict: pict.Is(r), Conj: conj.Of(r), East: east.Of(r)}
		if Of(r) != want || book.Of(r) != want || Prop(Code(want)) != want {
			t.Fatalf("%x: %v, in the book %v, wanted %v", r, Of(r), book.Of(r), want)
		}
	}
	for _, r := range []rune{math.MinInt32, math.MaxInt32} {
		if Of(r) != (api.Prop{}) || book.Of(r) != (api.Prop{}) {
			t.Errorf("%x: %v, %v", r, Of(r), book.Of(r))
		}
	}
}

// 13.1: the chapter's examples.
func TestExamples(t *testing.T) {
	for r, want := range map[rune]int{0x1f600: 144, 0x94d: 68, 0x61: 0, 0xa: 2, 0xac01: 128 + 13} {
		if Code(Of(r)) != want {
			t.Errorf("the code of %x is %d", r, Code(Of(r)))
		}
	}
	if p := Of(0x1f600); p != (api.Prop{Pict: true, East: api.Wide}) {
		t.Error(p)
	}
}

// 13.1: all codes, and others.
func TestCodes(t *testing.T) {
	seen := map[api.Prop]bool{}
	for code := range 512 {
		p := Prop(code)
		if code%16 > 13 {
			if p != (api.Prop{}) {
				t.Errorf("%d has %v", code, p)
			}
			continue
		}
		if Code(p) != code || seen[p] {
			t.Errorf("%d has %v, whose code is %d", code, p, Code(p))
		}
		seen[p] = true
	}
	for _, code := range []int{-1, -16, 512, 513, math.MinInt, math.MaxInt} {
		if Prop(code) != (api.Prop{}) {
			t.Errorf("%d has %v", code, Prop(code))
		}
	}
}

// 13.1: what has no code.
func TestNoCode(t *testing.T) {
	for _, p := range []api.Prop{
		{Break: -1}, {Break: 14}, {Conj: -1}, {Conj: 4}, {East: -1}, {East: 4},
		{Break: math.MaxInt, Pict: true}, {Conj: math.MinInt}, {East: math.MaxInt}, {Break: 14, Conj: 4, East: 4},
	} {
		if Code(p) != -1 {
			t.Errorf("%v has the code %d", p, Code(p))
		}
	}
	if Code(api.Prop{Break: 13, Pict: true, Conj: 3, East: 3}) != 16*31+13 {
		t.Error("the greatest code is wrong")
	}
}

// 13.2: a nil book, and the blocks of others.
func TestBook(t *testing.T) {
	var none *Book
	if none.Of(0x1f600) != (api.Prop{}) || none.Blocks() != 0 {
		t.Error("a nil book tells something")
	}
	pages := map[[256]int]bool{}
	for page := range 4352 {
		var codes [256]int
		for i := range codes {
			codes[i] = Code(Of(rune(page*256 + i)))
		}
		pages[codes] = true
	}
	if got := New().Blocks(); got != len(pages) {
		t.Errorf("%d blocks, not %d", got, len(pages))
	}
}

func BenchmarkOf(b *testing.B) {
	for b.Loop() {
		Of(0x1f600)
	}
}
