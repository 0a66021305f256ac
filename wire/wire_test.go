package wire

import (
	"bytes"
	"math/rand"
	"reflect"
	"slices"
	"testing"

	"linotype/api"
	"linotype/cell"
	"linotype/screen"
)

func one(l ...rune) api.Cell  { return api.Cell{Kind: api.One, Text: l} }
func lead(l ...rune) api.Cell { return api.Cell{Kind: api.Lead, Text: l} }
func spacer() api.Cell        { return api.Cell{Kind: api.Spacer} }

func viewOf(l ...api.Cell) api.View {
	return api.View{Wide: len(l), High: 1, Lines: []api.Line{{Cells: l}}, Auto: true}
}

// 55.1: the chapter's example, and others.
func TestPut(t *testing.T) {
	wide := viewOf(cell.Blanks(300)...)
	wide.At = api.Cursor{Col: 299, Pending: true}
	wide.Lines[0].Wrap = true
	wide.Auto = false
	for _, x := range []struct {
		v    api.View
		want []byte
	}{
		{viewOf(api.Cell{}), []byte{0x4c, 1, 1, 0, 0, 2, 0, 2}},
		{viewOf(one(0x61), one(0x62, 0x301), api.Cell{}, api.Cell{}, lead(0x4e00), spacer()), []byte{0x4c, 6, 1, 0, 0, 2, 0, 5, 2, 'a', 6, 'b', 0xcc, 0x81, 4, 5, 7, 0xe4, 0xb8, 0x80}},
		{viewOf(cell.Blanks(64)...), []byte{0x4c, 64, 1, 0, 0, 2, 0, 0x80, 1}},
		{viewOf(cell.Blanks(128)...), []byte{0x4c, 0x80, 1, 1, 0, 0, 2, 0, 0x80, 2}},
		{wide, []byte{0x4c, 0xac, 2, 1, 0, 0xab, 2, 1, 1, 0xd8, 4}},
	} {
		got, err := Put(x.v)
		if err != nil || !bytes.Equal(got, x.want) {
			t.Errorf("%v: % x, %v", x.v.Lines, got, err)
		}
		v, err := Get(x.want)
		if err != nil || v.Wide != x.v.Wide || v.At != x.v.At || v.Auto != x.v.Auto || v.Lines[0].Wrap != x.v.Lines[0].Wrap || !cell.Same(v.Lines[0].Cells, x.v.Lines[0].Cells) {
			t.Errorf("% x: %v, %v", x.want, v, err)
		}
	}
}

// 55.1: views that are not sound.
func TestPutWrong(t *testing.T) {
	high := viewOf(api.Cell{})
	high.High = 2
	at := viewOf(api.Cell{})
	at.At.Col = 1
	for _, v := range []api.View{{}, viewOf(), viewOf(spacer()), viewOf(one()), viewOf(one(-1)), viewOf(lead(0x61), one(0x61)), high, at} {
		if b, err := Put(v); api.Code(err) != 5 || api.At(err) != -1 || len(b) > 0 {
			t.Errorf("%v: % x, %v", v, b, err)
		}
	}
}

// 55.2: bytes that are no view's.
func TestGetWrong(t *testing.T) {
	sixteen := append([]byte{0x4c, 1, 1, 0, 0, 2, 0, 3, 34}, slices.Repeat([]byte{'a'}, 17)...)
	for _, b := range [][]byte{
		nil, {0x4c}, {0x4d, 1, 1, 0, 0, 2, 0, 2}, {0x4c, 0, 1, 0, 0, 2, 0}, {0x4c, 1, 0, 0, 0, 2},
		{0x4c, 1, 1, 0, 0, 4, 0, 2}, {0x4c, 1, 1, 0, 0, 0x82, 0, 2}, {0x4c, 1, 1, 0, 0, 2, 2, 2}, {0x4c, 1, 1, 0, 1, 2, 0, 2}, {0x4c, 1, 1, 1, 0, 2, 0, 2}, {0x4c, 2, 1, 0, 0, 1, 0, 4},
		{0x4c, 0x81, 0, 1, 0, 0, 2, 0, 2}, {0x4c, 1, 1, 0x80, 0, 0, 2, 0, 2}, {0x4c, 0x81, 0x80, 0, 1, 0, 0, 2, 0, 2}, {0x4c, 1, 1, 0, 0, 2, 0, 0x82, 0}, {0x4c, 0x81, 0x80, 0x80, 0, 1, 0, 0, 2, 0, 2},
		{0x4c, 0xff, 0xff, 0xff, 0xff, 1, 1, 1}, {0x4c, 0x81, 8, 1, 0, 0, 2, 0, 2}, {0x4c, 1, 0x81, 8, 0, 0, 2, 0, 2},
		{0x4c, 1, 1, 0, 0, 2, 0, 0}, {0x4c, 1, 1, 0, 0, 2, 0, 1}, {0x4c, 1, 1, 0, 0, 2, 0, 4}, {0x4c, 2, 1, 0, 0, 2, 0, 2, 2}, {0x4c, 2, 1, 0, 0, 2, 0, 3, 2, 'a', 3, 2, 'a'},
		{0x4c, 1, 1, 0, 0, 2, 0, 3, 0}, {0x4c, 1, 1, 0, 0, 2, 0, 3, 2, 0xff}, {0x4c, 1, 1, 0, 0, 2, 0, 3, 4, 0xe2, 0x82}, {0x4c, 1, 1, 0, 0, 2, 0, 3, 6, 0xed, 0xa0, 0x80}, {0x4c, 1, 1, 0, 0, 2, 0, 3, 3, 'a'},
		{0x4c, 2, 1, 0, 0, 2, 0, 5, 3}, {0x4c, 2, 1, 0, 0, 2, 0, 5, 2, 'a'}, {0x4c, 2, 1, 0, 0, 2, 0, 3, 3, 'a', 2}, {0x4c, 2, 1, 0, 0, 2, 0, 5, 2, 'a', 3, 'a'},
		sixteen,
	} {
		if v, err := Get(b); api.Code(err) != 2 || api.At(err) != -1 || !reflect.DeepEqual(v, api.View{}) {
			t.Errorf("% x: %v, %v", b, v, err)
		}
	}
}

// 55.2: more than 2^24 bytes, that are a view's, and that are none.
func TestLong(t *testing.T) {
	v := api.View{Wide: 1024, High: 1024, Lines: make([]api.Line, 1024)}
	text := slices.Repeat([]rune{0x10ffff}, 5)
	for i := range v.Lines {
		v.Lines[i].Cells = slices.Repeat([]api.Cell{{Kind: api.One, Text: text}}, 1024)
	}
	b, err := Put(v)
	if err != nil || len(b) <= 1<<24 {
		t.Fatal(len(b), err)
	}
	if got, err := Get(b); err != nil || len(got.Lines) != 1024 || !cell.Same(got.Lines[1023].Cells, v.Lines[1023].Cells) {
		t.Error(err)
	}
	if got, err := Get(append(b, 0)); api.Code(err) != 4 || got.Lines != nil {
		t.Error(err)
	}
	if _, err := Get(make([]byte, 1<<24)); api.Code(err) != 2 {
		t.Error(err)
	}
	if _, err := Get(make([]byte, 1<<24+1)); api.Code(err) != 4 {
		t.Error(err)
	}
}

func someView(rnd *rand.Rand) api.View {
	kinds := []string{"a", "b\u0301", "\u4e00", "\u2764\ufe0f", "\r\n", "\U0001f468\u200d\U0001f469", "\xff", "abc", "\n"}
	s := screen.New(1+rnd.Intn(6), 1+rnd.Intn(3))
	for range rnd.Intn(10) {
		_ = s.Do(api.Op{Bytes: []byte(kinds[rnd.Intn(len(kinds))])})
	}
	if rnd.Intn(2) == 0 {
		_ = s.Do(api.Op{Kind: 2 + rnd.Intn(11), A: rnd.Intn(3), B: rnd.Intn(4)})
	}
	return s.View()
}

// 55.3: what is put is got; no beginning, and nothing longer, is a view's; whatever is got has these bytes.
func TestAny(t *testing.T) {
	rnd := rand.New(rand.NewSource(55))
	for range 2000 {
		v := someView(rnd)
		b, err := Put(v)
		if err != nil {
			t.Fatal(err)
		}
		got, err := Get(b)
		if err != nil || !reflect.DeepEqual(got, v) {
			t.Fatalf("%v: %v, %v", v, got, err)
		}
		for n := range b {
			if _, err := Get(b[:n]); api.Code(err) != 2 {
				t.Fatalf("% x is a view's", b[:n])
			}
		}
		if _, err := Get(append(slices.Clone(b), byte(rnd.Intn(256)))); api.Code(err) != 2 {
			t.Fatalf("% x and one more are a view's", b)
		}
		b[rnd.Intn(len(b))] ^= 1 << rnd.Intn(8)
		if got, err := Get(b); err == nil {
			if again, err := Put(got); err != nil || !bytes.Equal(again, b) {
				t.Fatalf("% x is got, and put as % x", b, again)
			}
		} else if api.Code(err) != 2 {
			t.Fatal(err)
		}
	}
}
