package octet

import (
	"testing"
	"unicode/utf8"
)

// everyForm calls f with the form of each scalar value.
func everyForm(f func(r rune, form []byte)) {
	for r := rune(0); r <= utf8.MaxRune; r++ {
		if utf8.ValidRune(r) {
			f(r, utf8.AppendRune(nil, r))
		}
	}
}

// 2.1: of all bytes, by all forms there are.
func TestLeadAndTail(t *testing.T) {
	var lead [256]int
	var tail [256]bool
	everyForm(func(r rune, form []byte) {
		lead[form[0]] = len(form)
		for _, b := range form[1:] {
			tail[b] = true
		}
	})
	for i := range 256 {
		b := byte(i)
		if Lead(b) != lead[i] || Tail(b) != tail[i] {
			t.Errorf("%x: Lead %d, Tail %v", b, Lead(b), Tail(b))
		}
	}
}

// 2.1: the edges that the chapter names.
func TestLeadEdges(t *testing.T) {
	for b, want := range map[byte]int{0: 1, 0x7f: 1, 0x80: 0, 0xbf: 0, 0xc0: 0, 0xc1: 0, 0xc2: 2, 0xdf: 2, 0xe0: 3, 0xef: 3, 0xf0: 4, 0xf4: 4, 0xf5: 0, 0xff: 0} {
		if Lead(b) != want {
			t.Errorf("Lead(%x) is %d", b, Lead(b))
		}
	}
	for b, want := range map[byte]bool{0x7f: false, 0x80: true, 0xbf: true, 0xc0: false, 0: false, 0xff: false} {
		if Tail(b) != want {
			t.Errorf("Tail(%x) is %v", b, Tail(b))
		}
	}
}

// 2.2: of all bytes, by all forms there are.
func TestSecond(t *testing.T) {
	var lo, hi [256]byte
	everyForm(func(r rune, form []byte) {
		if len(form) < 2 {
			return
		}
		a, b := form[0], form[1]
		if lo[a] == 0 || b < lo[a] {
			lo[a] = b
		}
		hi[a] = max(hi[a], b)
	})
	for i := range 256 {
		if a, b := Second(byte(i)); a != lo[i] || b != hi[i] {
			t.Errorf("Second(%x) is %x, %x, wanted %x, %x", i, a, b, lo[i], hi[i])
		}
	}
}

// 2.2: the bounds that the chapter names.
func TestSecondEdges(t *testing.T) {
	for b, want := range map[byte][2]byte{
		0xe0: {0xa0, 0xbf}, 0xed: {0x80, 0x9f}, 0xf0: {0x90, 0xbf}, 0xf4: {0x80, 0x8f},
		0xc2: {0x80, 0xbf}, 0xe1: {0x80, 0xbf}, 0xec: {0x80, 0xbf}, 0xee: {0x80, 0xbf}, 0xf1: {0x80, 0xbf},
		0: {}, 0x61: {}, 0x80: {}, 0xc1: {}, 0xf5: {}, 0xff: {},
	} {
		if lo, hi := Second(b); lo != want[0] || hi != want[1] {
			t.Errorf("Second(%x) is %x, %x", b, lo, hi)
		}
	}
}

// 2.2: with the bits of further bytes those of the first one are the scalar value.
func TestBits(t *testing.T) {
	everyForm(func(r rune, form []byte) {
		n := Bits(form[0])
		for _, b := range form[1:] {
			n = n<<6 | int(b&0x3f)
		}
		if n != int(r) {
			t.Fatalf("%x is read as %x", r, n)
		}
	})
	for i := range 256 {
		if b := byte(i); Lead(b) == 0 && Bits(b) != 0 {
			t.Errorf("Bits(%x) is %x", b, Bits(b))
		}
	}
}
