package readback

import (
	"math/rand"
	"slices"
	"testing"

	"linotype/api"
	"linotype/basew"
	"linotype/fitline"
	"linotype/grapheme"
	"linotype/scalar"
	"linotype/screen"
)

func blankCell() api.Cell     { return api.Cell{} }
func spacer() api.Cell        { return api.Cell{Kind: api.Spacer} }
func one(l ...rune) api.Cell  { return api.Cell{Kind: api.One, Text: l} }
func lead(l ...rune) api.Cell { return api.Cell{Kind: api.Lead, Text: l} }

func line(wrap bool, l ...api.Cell) api.Line { return api.Line{Cells: l, Wrap: wrap} }

// 42.1: long lines of all sorts of views.
func TestLines(t *testing.T) {
	a, b := one(0x61), one(0x62)
	for _, x := range []struct {
		name string
		l    []api.Line
		want [][]rune
		text []rune
	}{
		{"no line", nil, nil, nil},
		{"blanks", []api.Line{line(false, blankCell()), line(false, blankCell())}, [][]rune{nil, nil}, nil},
		{"the chapter's example", []api.Line{line(true, a, b, blankCell()), line(false, lead(0x4e00), spacer(), one(0x63))}, [][]rune{{0x61, 0x62, 0x4e00, 0x63}}, []rune{0x61, 0x62, 0x4e00, 0x63}},
		{"two", []api.Line{line(false, a, blankCell()), line(false, b, blankCell())}, [][]rune{{0x61}, {0x62}}, []rune{0x61, 0xa, 0x62}},
		{"blanks between", []api.Line{line(false, blankCell(), a, blankCell())}, [][]rune{{0x20, 0x61}}, []rune{0x20, 0x61}},
		{"one blank is left out", []api.Line{line(true, a, blankCell(), blankCell()), line(false, b)}, [][]rune{{0x61, 0x20, 0x62}}, []rune{0x61, 0x20, 0x62}},
		{"a last line that goes on", []api.Line{line(true, a, blankCell(), blankCell())}, [][]rune{{0x61}}, []rune{0x61}},
		{"a long line that ends with blanks", []api.Line{line(true, a, blankCell(), b), line(false, blankCell(), blankCell())}, [][]rune{{0x61, 0x20, 0x62}}, []rune{0x61, 0x20, 0x62}},
		{"blanks that go on", []api.Line{line(true, blankCell(), blankCell()), line(false, blankCell())}, [][]rune{{0x20}}, []rune{0x20}},
		{"empty ones ahead and behind", []api.Line{line(false, blankCell()), line(false, a), line(false, blankCell())}, [][]rune{nil, {0x61}, nil}, []rune{0xa, 0x61}},
		{"other kinds", []api.Line{line(false, api.Cell{Kind: 9, Text: []rune{0x7a}}, a, spacer(), api.Cell{Kind: api.Blank, Text: []rune{0x79}}, spacer(), blankCell())}, [][]rune{{0x61, 0x20}}, []rune{0x61, 0x20}},
		{"no scalar values", []api.Line{line(false, one(-1, 0xd800))}, [][]rune{{-1, 0xd800}}, []rune{-1, 0xd800}},
		{"no cells", []api.Line{line(true), line(false)}, [][]rune{nil}, nil},
	} {
		v := api.View{Wide: -3, High: 99, Lines: x.l}
		if got := Lines(v); !slices.EqualFunc(got, x.want, slices.Equal[[]rune]) {
			t.Errorf("%s: %x", x.name, got)
		}
		if got := Text(v); !slices.Equal(got, x.text) {
			t.Errorf("%s: %x", x.name, got)
		}
		if forms, _ := scalar.Put(scalar.Replace(x.text...)...); !slices.Equal(Bytes(v), forms) {
			t.Errorf("%s: % x", x.name, Bytes(v))
		}
	}
	v := api.View{Lines: []api.Line{line(false, one(0x61))}}
	Lines(v)[0][0] = 0x7a
	if v.Lines[0].Cells[0].Text[0] != 0x61 {
		t.Error("texts share memory with cells")
	}
}

// someText is a text without what is silent, whose clusters have at most sixteen numbers.
func someText(rnd *rand.Rand) []rune {
	kinds := []rune{0x61, 0x20, 0x301, 0x200d, 0xfe0f, 0x2764, 0x1f468, 0x1f1e9, 0x4e00, 0x915, 0x94d, 0x1100, 0x1161, 0x600, 0x200b, 0xfffd, 0x10ffff}
	var l []rune
	for range rnd.Intn(20) {
		l = append(l, kinds[rnd.Intn(len(kinds))])
	}
	for _, c := range grapheme.Clusters(l...) {
		if len(c) > 16 || basew.Silent(c[0]) {
			return nil
		}
	}
	return l
}

// 42.2, W4: what is fed and flushed is read back byte by byte, and stands in the lines that the text has by itself.
func TestReadBack(t *testing.T) {
	rnd := rand.New(rand.NewSource(42))
	for range 5000 {
		text := someText(rnd)
		b, err := scalar.Put(text...)
		if err != nil {
			t.Fatal(err)
		}
		w := 2 + rnd.Intn(6)
		lines := fitline.Lines(text, w)
		s := screen.New(w, len(lines))
		if err := s.Run(api.Op{Kind: api.Feed, Bytes: b}, api.Op{Kind: api.Flush}); err != nil {
			t.Fatal(err)
		}
		v := s.View()
		if !slices.Equal(Bytes(v), b) {
			t.Fatalf("%x on %d columns: % x", text, w, Bytes(v))
		}
		for i, l := range v.Lines {
			if got := lineText(l.Cells, i+1 < len(lines)); !slices.Equal(got, lines[i]) || l.Wrap != (i+1 < len(lines)) {
				t.Fatalf("%x on %d columns: line %d is %x, not %x", text, w, i, got, lines[i])
			}
		}
	}
}
