package screen_test

import (
	"math/rand"
	"reflect"
	"slices"
	"testing"

	"linotype/api"
	"linotype/audit"
	"linotype/diff"
	"linotype/readback"
	"linotype/reflow"
	"linotype/render"
	"linotype/screen"
	"linotype/snap"
	"linotype/wire"
)

func someScreen(rnd *rand.Rand) *screen.Screen {
	kinds := []string{"a", "b\u0301", "\u4e00", "\u2764", "\ufe0f", "\u0301", "\n", "\r", "\r\n", "\U0001f468\u200d\U0001f469", "\U0001f1e9", "\xff", "\uac00", "abc", "\u0915\u094d\u0915", "\u20ac"}
	s := screen.New(1+rnd.Intn(6), 1+rnd.Intn(4))
	for range rnd.Intn(14) {
		o := api.Op{Kind: api.Feed, Bytes: []byte(kinds[rnd.Intn(len(kinds))])}
		if rnd.Intn(5) == 0 {
			o = api.Op{Kind: 1 + rnd.Intn(13), A: rnd.Intn(5), B: 1 + rnd.Intn(5)}
		}
		_ = s.Do(o)
	}
	return s
}

// W6: what a screen shows is told in four ways, and is what is read, got, drawn and applied.
func TestToldAndRead(t *testing.T) {
	rnd := rand.New(rand.NewSource(6))
	last := screen.New(2, 2).View()
	for range 3000 {
		v := someScreen(rnd).View()
		if !audit.Sound(v) {
			t.Fatalf("%v is not sound", v)
		}
		if got, err := snap.Read(snap.Tell(v)); err != nil || !reflect.DeepEqual(got, v) {
			t.Fatalf("%v is read as %v: %v", v, got, err)
		}
		b, err := wire.Put(v)
		if got, err2 := wire.Get(b); err != nil || err2 != nil || !reflect.DeepEqual(got, v) {
			t.Fatalf("%v is got as %v: %v, %v", v, got, err, err2)
		}
		p, ok := diff.Of(last, v)
		if got, applied := diff.Apply(last, p); !ok || !applied || !reflect.DeepEqual(got, v) {
			t.Fatalf("%v is applied as %v", v, got)
		}
		if ops, ok := render.Ops(v); ok {
			s := screen.New(v.Wide, v.High)
			if err := s.Run(ops...); err != nil || !reflect.DeepEqual(s.View(), render.Bare(v)) {
				t.Fatalf("%v is drawn as %v: %v", v, s.View(), err)
			}
		}
		last = v
	}
}

// W6: broken anew, for any width of 2 and more, long lines without blanks within keep their texts.
func TestBrokenAnew(t *testing.T) {
	rnd := rand.New(rand.NewSource(66))
	for range 2000 {
		kinds := []string{"a", "b\u0301", "\u4e00", "\u2764\ufe0f", "\U0001f468\u200d\U0001f469", "\r\n", " "}
		s := screen.New(2+rnd.Intn(5), 1+rnd.Intn(6))
		for range rnd.Intn(14) {
			_ = s.Do(api.Op{Kind: api.Feed, Bytes: []byte(kinds[rnd.Intn(len(kinds))])})
		}
		v := s.View()
		lines, err := reflow.Lines(v.Lines, 2+rnd.Intn(7))
		if err != nil {
			t.Fatal(err)
		}
		if got, want := readback.Lines(api.View{Lines: lines}), readback.Lines(v); !slices.EqualFunc(got, want, slices.Equal[[]rune]) {
			t.Fatalf("%x became %x", want, got)
		}
	}
}

// promoted calls of the feeder are the screen's
func TestPromoted(t *testing.T) {
	s := screen.New(3, 1)
	s.Bytes('a', 0xcc)
	s.Rune('b')
	if s.Held() != 1 || !slices.Equal(s.Open(), []rune{'b'}) {
		t.Error(s.Held(), s.Open())
	}
	s.Close()
	s.Flush()
	if v := s.View(); s.Held() != 0 || len(s.Open()) > 0 || !slices.Equal(readback.Text(v), []rune{'a', 'b', 0xfffd}) {
		t.Errorf("%x", readback.Text(v))
	}
}
