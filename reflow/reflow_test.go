package reflow

import (
	"math"
	"math/rand"
	"slices"
	"testing"

	"linotype/api"
	"linotype/cell"
	"linotype/items"
	"linotype/readback"
	"linotype/screen"
)

func blank() api.Cell         { return api.Cell{} }
func spacer() api.Cell        { return api.Cell{Kind: api.Spacer} }
func one(l ...rune) api.Cell  { return api.Cell{Kind: api.One, Text: l} }
func lead(l ...rune) api.Cell { return api.Cell{Kind: api.Lead, Text: l} }

func line(wrap bool, l ...api.Cell) api.Line { return api.Line{Cells: l, Wrap: wrap} }

func item(wide int, l ...rune) api.Item { return api.Item{Wide: wide, Text: l} }

func sameItems(a, b []api.Item) bool {
	return slices.EqualFunc(a, b, func(x, y api.Item) bool { return x.Wide == y.Wide && slices.Equal(x.Text, y.Text) })
}

func sameLines(a, b []api.Line) bool {
	return slices.EqualFunc(a, b, func(x, y api.Line) bool { return x.Wrap == y.Wrap && cell.Same(x.Cells, y.Cells) })
}

// 51.1: the items of long lines.
func TestLong(t *testing.T) {
	a, b := item(1, 0x61), item(1, 0x62)
	for _, x := range []struct {
		name string
		l    []api.Line
		want [][]api.Item
	}{
		{"no line", nil, nil},
		{"one", []api.Line{line(false, one(0x61), blank(), lead(0x4e00), spacer(), blank(), blank())}, [][]api.Item{{a, item(1), item(2, 0x4e00)}}},
		{"blanks", []api.Line{line(false, blank()), line(false, blank(), blank())}, [][]api.Item{nil, nil}},
		{"one that goes on", []api.Line{line(true, one(0x61), blank()), line(false, one(0x62), blank())}, [][]api.Item{{a, b}}},
		{"blanks that stay", []api.Line{line(true, one(0x61), blank(), blank()), line(true, blank(), blank()), line(false, blank(), one(0x62))}, [][]api.Item{{a, item(1), item(1), item(1), b}}},
		{"a last line that goes on", []api.Line{line(false, one(0x61)), line(true, one(0x62), blank(), blank())}, [][]api.Item{{a}, {b}}},
		{"no cells", []api.Line{line(true), line(false)}, [][]api.Item{nil}},
	} {
		if got, err := Long(x.l...); err != nil || !slices.EqualFunc(got, x.want, sameItems) {
			t.Errorf("%s: %v, %v", x.name, got, err)
		}
	}
}

// 51.1, 51.2: what is wrong.
func TestWrong(t *testing.T) {
	for _, x := range []struct {
		l  []api.Line
		at int
	}{
		{[]api.Line{line(false, spacer())}, 0},
		{[]api.Line{line(true, blank()), line(false, one(0x61), lead(0x61)), line(false, spacer())}, 1},
		{[]api.Line{line(true, lead(0x61)), line(false, spacer())}, 0},
		{[]api.Line{line(false), line(false, one())}, 1},
	} {
		got, err := Long(x.l...)
		lines, err2 := Lines(x.l, 3)
		if api.Code(err) != 5 || api.At(err) != x.at || api.Within(err) != -1 || len(got) > 0 || api.Code(err2) != 5 || api.At(err2) != x.at || len(lines) > 0 {
			t.Errorf("%v: %v, %v", x.l, err, err2)
		}
	}
	for _, x := range []struct {
		l  []api.Item
		at int
	}{{[]api.Item{item(2)}, 0}, {[]api.Item{item(1, 0x61), item(1), item(1, -1), item(3)}, 2}, {[]api.Item{item(1), item(0, 0x61)}, 1}} {
		if got, err := Break(x.l, 3); api.Code(err) != 5 || api.At(err) != x.at || len(got) > 0 {
			t.Errorf("%v: %v", x.l, err)
		}
	}
}

// 51.2: items broken.
func TestBreak(t *testing.T) {
	a, wide := item(1, 0x61), item(2, 0x4e00)
	for _, x := range []struct {
		l    []api.Item
		w    int
		want []api.Line
	}{
		{nil, 3, []api.Line{line(false, blank(), blank(), blank())}},
		{nil, 0, []api.Line{line(false, blank())}},
		{[]api.Item{a, a, a}, 2, []api.Line{line(true, one(0x61), one(0x61)), line(false, one(0x61), blank())}},
		{[]api.Item{a, a}, 2, []api.Line{line(false, one(0x61), one(0x61))}},
		{[]api.Item{a, wide, a}, 2, []api.Line{line(true, one(0x61), blank()), line(true, lead(0x4e00), spacer()), line(false, one(0x61), blank())}},
		{[]api.Item{a, wide}, 1, []api.Line{line(true, one(0x61)), line(false, one(0xfffd))}},
		{[]api.Item{item(1), wide, item(1)}, math.MinInt, []api.Line{line(true, blank()), line(true, one(0xfffd)), line(false, blank())}},
		{[]api.Item{item(1), item(1)}, 3, []api.Line{line(false, blank(), blank(), blank())}},
	} {
		if got, err := Break(x.l, x.w); err != nil || !sameLines(got, x.want) {
			t.Errorf("%v for %d: %v, %v", x.l, x.w, got, err)
		}
	}
	got, err := Break(slices.Repeat([]api.Item{a}, 1025), math.MaxInt)
	if err != nil || len(got) != 2 || len(got[0].Cells) != 1024 || len(got[1].Cells) != 1024 {
		t.Error(len(got), err)
	}
	in := []api.Item{item(1, 0x61)}
	got, _ = Break(in, 1)
	got[0].Cells[0].Text[0] = 0x7a
	if in[0].Text[0] != 0x61 {
		t.Error("lines share memory with items")
	}
}

// 51.2: lines broken anew; the chapter's example.
func TestLines(t *testing.T) {
	got, err := Lines([]api.Line{line(false, one(0x61), one(0x62), one(0x63))}, 2)
	if err != nil || !sameLines(got, []api.Line{line(true, one(0x61), one(0x62)), line(false, one(0x63), blank())}) {
		t.Error(got, err)
	}
	got, err = Lines([]api.Line{line(true, one(0x61)), line(false, one(0x62)), line(false, blank())}, 4)
	if err != nil || !sameLines(got, []api.Line{line(false, one(0x61), one(0x62), blank(), blank()), line(false, cell.Blanks(4)...)}) {
		t.Error(got, err)
	}
	if got, err = Lines(nil, 4); err != nil || len(got) > 0 {
		t.Error(got, err)
	}
}

// 51.3: items without blanks stay through all widths of 2 and more; for the same width nothing changes; W6: what screens show keeps its texts.
func TestAny(t *testing.T) {
	rnd := rand.New(rand.NewSource(51))
	for range 3000 {
		var x []api.Item
		for range 1 + rnd.Intn(9) {
			x = append(x, item(1+rnd.Intn(2), rune(0x61+rnd.Intn(26))))
		}
		lines, err := Break(x, 2+rnd.Intn(5))
		for range 3 {
			if err != nil {
				t.Fatal(err)
			}
			long, err := Long(lines...)
			if err != nil || len(long) != 1 || !sameItems(long[0], x) {
				t.Fatalf("%v became %v", x, long)
			}
			again, err := Lines(lines, len(lines[0].Cells))
			if err != nil || !sameLines(again, lines) {
				t.Fatalf("%v became %v", lines, again)
			}
			w := 2 + rnd.Intn(6)
			lines, err = Lines(lines, w)
			for _, l := range lines {
				if len(l.Cells) != w || !cell.Sound(l.Cells...) || err != nil {
					t.Fatalf("%v", lines)
				}
			}
		}
	}
}

func TestScreens(t *testing.T) {
	kinds := []string{"a", "b\u0301", "\u4e00", "\u2764\ufe0f", "\r\n", "abc"}
	rnd := rand.New(rand.NewSource(513))
	for range 1000 {
		s := screen.New(2+rnd.Intn(4), 6)
		for range rnd.Intn(8) {
			_ = s.Do(api.Op{Bytes: []byte(kinds[rnd.Intn(len(kinds))])})
		}
		v := s.View()
		lines, err := Lines(v.Lines, 2+rnd.Intn(6))
		broken := api.View{Lines: lines}
		if err != nil || !slices.Equal(readback.Text(broken), readback.Text(v)) {
			t.Fatalf("%x became %x", readback.Text(v), readback.Text(broken))
		}
		for i, x := range mustLong(t, v.Lines) {
			if items.Wide(x...) == 0 && len(readback.Lines(v)[i]) > 0 {
				t.Fatal(i)
			}
		}
	}
}

func mustLong(t *testing.T, l []api.Line) [][]api.Item {
	t.Helper()
	long, err := Long(l...)
	if err != nil {
		t.Fatal(err)
	}
	return long
}
