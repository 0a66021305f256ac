package utfdec

import (
	"math/rand"
	"slices"
	"testing"
	"unicode/utf8"
)

// someBytes are bytes at which forms begin, go on, and end, in any order.
func someBytes(rnd *rand.Rand, n int) []byte {
	kinds := []byte{0, 0x41, 0x7f, 0x80, 0x8f, 0x90, 0x9f, 0xa0, 0xbf, 0xc0, 0xc1, 0xc2, 0xdf, 0xe0, 0xe2, 0xed, 0xef, 0xf0, 0xf1, 0xf4, 0xf5, 0xff}
	b := make([]byte, n)
	for i := range b {
		b[i] = kinds[rnd.Intn(len(kinds))]
	}
	return b
}

// model reads bytes as Go's converting of strings does where each maximal beginning of a form is one bad part.
func model(b []byte) []rune {
	var told []rune
	for len(b) > 0 {
		r, n := utf8.DecodeRune(b)
		if r == utf8.RuneError && n == 1 {
			for n < len(b) && n < 4 && !utf8.FullRune(b[:n]) {
				if utf8.FullRune(b[:n+1]) {
					break
				}
				n++
			}
		}
		told = append(told, r)
		b = b[n:]
	}
	return told
}

// 3.1: bytes one by one.
func TestStep(t *testing.T) {
	for _, x := range []struct {
		in   string
		want [][]rune
	}{
		{"\xe2\x82\x41", [][]rune{nil, nil, {0xfffd, 0x41}}},
		{"\xe0\x80", [][]rune{nil, {0xfffd, 0xfffd}}},
		{"\xe2\x82\xac", [][]rune{nil, nil, {0x20ac}}},
		{"\xf0\x9f\x98\x80a", [][]rune{nil, nil, nil, {0x1f600}, {0x61}}},
		{"\xc2\xc3\xa9", [][]rune{nil, {0xfffd}, {0xe9}}},
		{"\xf4\x90", [][]rune{nil, {0xfffd, 0xfffd}}},
		{"\xf4\x8f\xbf\xbf", [][]rune{nil, nil, nil, {0x10ffff}}},
		{"\xed\xa0", [][]rune{nil, {0xfffd, 0xfffd}}},
		{"\xf0\x9f\x98\xc0", [][]rune{nil, nil, nil, {0xfffd, 0xfffd}}},
		{"\x80\xff\xc1\x00", [][]rune{{0xfffd}, {0xfffd}, {0xfffd}, {0}}},
	} {
		var d Dec
		for i := range len(x.in) {
			if got := d.Step(x.in[i]); !slices.Equal(got, x.want[i]) {
				t.Errorf("% x: byte %d tells %x", x.in, i, got)
			}
		}
	}
}

// 3.1: what is held, and how it is ended.
func TestHeldAndFlush(t *testing.T) {
	for in, want := range map[string]int{"": 0, "a": 0, "\xe2": 1, "\xe2\x82": 2, "\xe2\x82\xac": 0, "\xf0\x9f\x98": 3, "\xff": 0, "\xe2\x41": 0, "\xe2\xf0\x9f": 2} {
		var d Dec
		d.Feed([]byte(in)...)
		if d.Held() != want {
			t.Errorf("% x: %d are held", in, d.Held())
		}
		got := d.Flush()
		if want > 0 && !slices.Equal(got, []rune{0xfffd}) || want == 0 && len(got) > 0 || d.Held() != 0 {
			t.Errorf("% x: Flush tells %x, and %d are held", in, got, d.Held())
		}
		if len(d.Flush()) > 0 {
			t.Errorf("% x: Flush tells twice", in)
		}
		if got := d.Feed(0x61); !slices.Equal(got, []rune{0x61}) {
			t.Errorf("% x: behind Flush 61 tells %x", in, got)
		}
	}
}

// 3.1: a nil decoder.
func TestNil(t *testing.T) {
	var d *Dec
	if len(d.Step(0x61)) > 0 || len(d.Feed(0x61, 0xe2)) > 0 || len(d.Flush()) > 0 || d.Held() != 0 {
		t.Error("a nil decoder tells something")
	}
}

// 3.2: each form is told at its last byte alone.
func TestForms(t *testing.T) {
	var d Dec
	for r := rune(0); r <= utf8.MaxRune; r++ {
		if !utf8.ValidRune(r) {
			continue
		}
		form := utf8.AppendRune(nil, r)
		for i, b := range form {
			got := d.Step(b)
			if i+1 < len(form) && len(got) > 0 || i+1 == len(form) && !slices.Equal(got, []rune{r}) {
				t.Fatalf("%x: byte %d tells %x", r, i, got)
			}
		}
	}
}

// 3.2: pieces tell what the whole tells; a copy goes on likewise.
func TestPieces(t *testing.T) {
	rnd := rand.New(rand.NewSource(3))
	for range 20000 {
		b := someBytes(rnd, rnd.Intn(12))
		cut := rnd.Intn(len(b) + 1)
		var d Dec
		told := d.Feed(b[:cut]...)
		other := d
		told = append(told, d.Feed(b[cut:]...)...)
		again := other.Feed(b[cut:]...)
		if !slices.Equal(told[len(told)-len(again):], again) || d != other {
			t.Fatalf("% x cut at %d: %x, but of the copy %x", b, cut, told, again)
		}
		told = append(told, d.Flush()...)
		if want := model(b); !slices.Equal(told, want) {
			t.Fatalf("% x cut at %d: %x, wanted %x", b, cut, told, want)
		}
	}
}
