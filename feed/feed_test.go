package feed

import (
	"math/rand"
	"slices"
	"testing"

	"linotype/api"
	"linotype/cell"
	"linotype/ctrl"
	"linotype/cwidth"
	"linotype/grapheme"
	"linotype/place"
	"linotype/utfall"
)

func same(a, b *place.Pen) bool {
	return a.At == b.At && a.Auto == b.Auto && slices.EqualFunc(a.G.Lines(), b.G.Lines(), func(x, y api.Line) bool {
		return x.Wrap == y.Wrap && cell.Same(x.Cells, y.Cells)
	})
}

// someBytes are forms of all sorts, and pieces of forms.
func someBytes(rnd *rand.Rand) []byte {
	kinds := []string{"a", "b", "\u0301", "\u200d", "\ufe0f", "\u2764", "\U0001f468", "\U0001f1e9", "一", "\n", "\r", "\b", "\x1b", "\u0085", "\u0915", "\u094d", "\u1100", "\u1161", "\xe2", "\x82", "\xff", "\xf0\x9f", "\u200b", "\u0600"}
	var b []byte
	for range rnd.Intn(14) {
		b = append(b, kinds[rnd.Intn(len(kinds))]...)
	}
	return b
}

// lay puts all clusters of a text whole.
func lay(p *place.Pen, l []rune) {
	for _, c := range grapheme.Clusters(l...) {
		if ctrl.Do(p, c[0]) {
			for _, r := range c[1:] {
				ctrl.Do(p, r)
			}
			continue
		}
		c = c[:min(len(c), 16)]
		p.Put(cwidth.Of(c...), c...)
	}
}

// 37.1: the chapter's example.
func TestExample(t *testing.T) {
	p := place.New(3, 1)
	f := New(p)
	f.Bytes(0x65)
	f.Bytes(0xcc)
	if f.Held() != 1 || !slices.Equal(f.Open(), []rune{0x65}) {
		t.Error(f.Held(), f.Open())
	}
	f.Bytes(0x81)
	if c, _ := p.G.Row(0).Cell(0); !slices.Equal(c.Text, []rune{0x65, 0x301}) || !slices.Equal(f.Open(), []rune{0x65, 0x301}) || f.Held() != 0 {
		t.Errorf("%x, %x", c.Text, f.Open())
	}
}

// 37.1: what closes the open cluster, and what is held then.
func TestClose(t *testing.T) {
	for _, x := range []struct {
		name  string
		close func(f *Feeder)
		held  int
		first []rune // the first cell
		next  []rune // the second one
	}{
		{"Close", (*Feeder).Close, 1, []rune{0x61}, []rune{0x301}},
		{"Flush", (*Feeder).Flush, 0, []rune{0x61}, []rune{0xfffd}},
		{"a control", func(f *Feeder) { f.Rune(0) }, 1, []rune{0x61}, []rune{0x301}},
	} {
		p := place.New(4, 1)
		f := New(p)
		f.Bytes(0x61, 0xcc)
		x.close(f)
		if f.Held() != x.held || len(f.Open()) > 0 {
			t.Errorf("%s: %d held, %x open", x.name, f.Held(), f.Open())
		}
		f.Bytes(0x81)
		a, _ := p.G.Row(0).Cell(0)
		b, _ := p.G.Row(0).Cell(1)
		if !slices.Equal(a.Text, x.first) || !slices.Equal(b.Text, x.next) {
			t.Errorf("%s: %x, %x", x.name, a.Text, b.Text)
		}
	}
}

// 37.1: single scalar values, and what is none; the decoder is left as it is.
func TestRune(t *testing.T) {
	p := place.New(9, 1)
	f := New(p)
	f.Bytes(0xe2)
	f.Rune(0x61)
	f.Rune(0x301)
	f.Rune(-1)
	f.Rune(0xd800)
	f.Bytes(0x82, 0xac)
	var got [][]rune
	for i := range 4 {
		c, _ := p.G.Row(0).Cell(i)
		got = append(got, c.Text)
	}
	if !slices.EqualFunc(got, [][]rune{{0x61, 0x301}, {0xfffd}, {0xfffd}, {0x20ac}}, slices.Equal[[]rune]) {
		t.Errorf("%x", got)
	}
}

// 37.1: what is more than a cluster can have is dropped.
func TestFull(t *testing.T) {
	p := place.New(4, 1)
	f := New(p)
	for range 17 {
		f.Bytes(0xcc, 0x81)
	}
	f.Rune(0x62)
	a, _ := p.G.Row(0).Cell(0)
	b, _ := p.G.Row(0).Cell(1)
	if len(a.Text) != 16 || !slices.Equal(b.Text, []rune{0x62}) {
		t.Errorf("%x, %x", a.Text, b.Text)
	}
}

// 37.1: feeders that are nil, or of nothing.
func TestNil(t *testing.T) {
	if New(nil) != nil || New(&place.Pen{}) != nil {
		t.Error("there is a feeder of nothing")
	}
	var f *Feeder
	f.Bytes(0x61)
	f.Rune(0x61)
	f.Flush()
	f.Close()
	if f.Held() != 0 || len(f.Open()) > 0 {
		t.Error("a nil feeder has something")
	}
	p := place.New(1, 1)
	f = New(p)
	p.G = nil
	f.Bytes('a', 0xcc, 0x81, '\n')
	f.Flush()
}

// 37.2: in whichever pieces bytes come, all clusters are put whole.
func TestPieces(t *testing.T) {
	rnd := rand.New(rand.NewSource(37))
	for range 6000 {
		b := someBytes(rnd)
		w, h, auto := 1+rnd.Intn(5), 1+rnd.Intn(3), rnd.Intn(4) > 0
		p, want := place.New(w, h), place.New(w, h)
		p.Auto, want.Auto = auto, auto
		f := New(p)
		for rest := b; len(rest) > 0; {
			n := 1 + rnd.Intn(len(rest))
			f.Bytes(rest[:n]...)
			rest = rest[n:]
		}
		if f.Held() != utfall.Tail(b) {
			t.Fatalf("% x: %d are held", b, f.Held())
		}
		f.Flush()
		lay(want, utfall.Runes(b))
		if !same(p, want) {
			t.Fatalf("% x on %d, %d: %v at %v, wanted %v at %v", b, w, h, p.G.Lines(), p.At, want.G.Lines(), want.At)
		}
		if f.Held() != 0 || len(f.Open()) > 0 {
			t.Fatal("Flush leaves something")
		}
	}
}

// 37.2: what is open is the last cluster, by its first sixteen numbers.
func TestOpen(t *testing.T) {
	rnd := rand.New(rand.NewSource(372))
	for range 3000 {
		b := someBytes(rnd)
		f := New(place.New(3, 2))
		f.Bytes(b...)
		told := utfall.Runes(b)
		if utfall.Tail(b) > 0 {
			told = told[:len(told)-1]
		}
		var want []rune
		if all := grapheme.Clusters(told...); len(all) > 0 {
			if last := all[len(all)-1]; !ctrl.Do(nil, last[0]) {
				want = last[:min(len(last), 16)]
			}
		}
		if !slices.Equal(f.Open(), want) {
			t.Fatalf("% x: %x is open, not %x", b, f.Open(), want)
		}
	}
}
