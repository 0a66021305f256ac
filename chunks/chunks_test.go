package chunks

import (
	"bytes"
	"math"
	"math/rand"
	"slices"
	"testing"
)

func texts(l [][]byte) []string {
	s := make([]string, len(l))
	for i, p := range l {
		s[i] = string(p)
	}
	return s
}

// 5.1: places are held to the bytes, and put in order.
func TestCut(t *testing.T) {
	for _, x := range []struct {
		b    string
		at   []int
		want []string
	}{
		{"abcd", []int{9, 1, -3}, []string{"", "a", "bcd", ""}},
		{"abcd", nil, []string{"abcd"}},
		{"", nil, []string{""}},
		{"", []int{0, 5}, []string{"", "", ""}},
		{"abcd", []int{2, 2, 1}, []string{"a", "b", "", "cd"}},
		{"ab", []int{math.MaxInt, math.MinInt}, []string{"", "ab", ""}},
		{"ab", []int{2, 0}, []string{"", "ab", ""}},
	} {
		if got := texts(Cut([]byte(x.b), x.at...)); !slices.Equal(got, x.want) {
			t.Errorf("Cut(%q, %d): %q", x.b, x.at, got)
		}
	}
}

// 5.1: Join and Read of pieces.
func TestJoinAndRead(t *testing.T) {
	if got := Join([]byte("a"), nil, []byte("bc")); string(got) != "abc" {
		t.Errorf("%q", got)
	}
	if len(Join()) > 0 || len(Read()) > 0 || len(Read(nil, []byte{})) > 0 {
		t.Error("nothing becomes something")
	}
	if got := Read([]byte("\xe2"), nil, []byte("\x82\xac\xf0")); !slices.Equal(got, []rune{0x20ac, 0xfffd}) {
		t.Errorf("%x", got)
	}
}

// 5.1: what is handed in stays, what is handed out is new.
func TestMemory(t *testing.T) {
	b, at := []byte("abcd"), []int{3, 1}
	pieces := Cut(b, at...)
	_ = append(pieces[0], 'x')
	pieces[1][0] = 'y'
	if string(b) != "abcd" || !slices.Equal(at, []int{3, 1}) || string(pieces[2]) != "d" {
		t.Errorf("%q, %d, %q", b, at, pieces)
	}
	one := []byte("z")
	Join(one)[0] = 'x'
	if string(one) != "z" {
		t.Error("Join handed out what it was given")
	}
}

// 5.2: Join of Cut is all; what is read does not hang on the pieces.
func TestPieces(t *testing.T) {
	rnd := rand.New(rand.NewSource(5))
	kinds := []byte{0x41, 0x80, 0xbf, 0xc2, 0xe0, 0xe2, 0xed, 0xf0, 0xf4, 0xff}
	for range 5000 {
		b := make([]byte, rnd.Intn(12))
		for i := range b {
			b[i] = kinds[rnd.Intn(len(kinds))]
		}
		at := make([]int, rnd.Intn(5))
		for i := range at {
			at[i] = rnd.Intn(16) - 2
		}
		pieces := Cut(b, at...)
		if len(pieces) != len(at)+1 || !bytes.Equal(Join(pieces...), b) || !slices.Equal(Read(pieces...), Read(b)) {
			t.Fatalf("% x cut at %d: % x", b, at, pieces)
		}
	}
}
