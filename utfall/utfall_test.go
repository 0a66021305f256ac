package utfall

import (
	"math/rand"
	"slices"
	"testing"
	"unicode/utf8"

	"linotype/utfdec"
)

func someBytes(rnd *rand.Rand, n int) []byte {
	kinds := []byte{0, 0x41, 0x7f, 0x80, 0x8f, 0x90, 0x9f, 0xa0, 0xbf, 0xc0, 0xc1, 0xc2, 0xdf, 0xe0, 0xe2, 0xed, 0xef, 0xf0, 0xf1, 0xf4, 0xf5, 0xff}
	b := make([]byte, n)
	for i := range b {
		b[i] = kinds[rnd.Intn(len(kinds))]
	}
	return b
}

// 4.1: parts, where they are, and where they are known.
func TestAll(t *testing.T) {
	for _, x := range []struct {
		in   string
		want []Got
		tail int
	}{
		{"", nil, 0},
		{"a", []Got{{0x61, 0, 1, 1, false}}, 0},
		{"\xe2\x82\x41", []Got{{0xfffd, 0, 2, 3, true}, {0x41, 2, 1, 3, false}}, 0},
		{"\xe2\x82\xac", []Got{{0x20ac, 0, 3, 3, false}}, 0},
		{"\xe2\x82", []Got{{0xfffd, 0, 2, 2, true}}, 2},
		{"\xe2", []Got{{0xfffd, 0, 1, 1, true}}, 1},
		{"a\xf0\x9f\x98", []Got{{0x61, 0, 1, 1, false}, {0xfffd, 1, 3, 4, true}}, 3},
		{"\x80", []Got{{0xfffd, 0, 1, 1, true}}, 0},
		{"\xe2\xff", []Got{{0xfffd, 0, 1, 2, true}, {0xfffd, 1, 1, 2, true}}, 0},
		{"\xe0\x80", []Got{{0xfffd, 0, 1, 2, true}, {0xfffd, 1, 1, 2, true}}, 0},
		{"\xf4\x90\x80", []Got{{0xfffd, 0, 1, 2, true}, {0xfffd, 1, 1, 2, true}, {0xfffd, 2, 1, 3, true}}, 0},
		{"\xc2\xc2", []Got{{0xfffd, 0, 1, 2, true}, {0xfffd, 1, 1, 2, true}}, 1},
		{"\xef\xbf\xbd", []Got{{0xfffd, 0, 3, 3, false}}, 0},
	} {
		b := []byte(x.in)
		if got := All(b); !slices.Equal(got, x.want) {
			t.Errorf("All(% x): %v", x.in, got)
		}
		if got := Tail(b); got != x.tail {
			t.Errorf("Tail(% x): %d", x.in, got)
		}
	}
}

// 4.1: Valid and Runes are what Go knows of forms.
func TestValid(t *testing.T) {
	rnd := rand.New(rand.NewSource(4))
	for range 20000 {
		b := someBytes(rnd, rnd.Intn(7))
		if Valid(b) != utf8.Valid(b) {
			t.Fatalf("Valid(% x) is %v", b, Valid(b))
		}
		if utf8.Valid(b) && string(Runes(b)) != string(b) {
			t.Fatalf("Runes(% x) are %x", b, Runes(b))
		}
	}
	for r := rune(0); r <= utf8.MaxRune; r++ {
		if got := Runes(utf8.AppendRune(nil, r)); len(got) != 1 || utf8.ValidRune(r) && got[0] != r {
			t.Fatalf("the form of %x is read as %x", r, got)
		}
	}
}

// 4.2: parts are all of the bytes; a decoder tells each of them where it is known.
func TestDecoder(t *testing.T) {
	rnd := rand.New(rand.NewSource(44))
	for range 20000 {
		b := someBytes(rnd, rnd.Intn(10))
		parts := All(b)
		at := 0
		known := make([][]rune, len(b)+1)
		for i, g := range parts {
			if g.At != at || g.Len < 1 || g.Bad != (g.R == 0xfffd) || Runes(b)[i] != g.R {
				t.Fatalf("% x: part %d is %v", b, i, g)
			}
			at += g.Len
			known[g.Known] = append(known[g.Known], g.R)
		}
		if at != len(b) || len(Runes(b)) != len(parts) {
			t.Fatalf("% x: parts end at %d", b, at)
		}
		var d utfdec.Dec
		for i, x := range b {
			want := known[i+1]
			if i+1 == len(b) && Tail(b) > 0 {
				want = want[:len(want)-1]
			}
			if got := d.Step(x); !slices.Equal(got, want) {
				t.Fatalf("% x: byte %d tells %x, wanted %x", b, i, got, want)
			}
		}
		if d.Held() != Tail(b) {
			t.Fatalf("% x: Tail is %d, %d are held", b, Tail(b), d.Held())
		}
	}
}
