package rowtext

import (
	"math/rand"
	"slices"
	"testing"

	"linotype/api"
	"linotype/cell"
	"linotype/row"
)

func blankCell() api.Cell     { return api.Cell{} }
func spacer() api.Cell        { return api.Cell{Kind: api.Spacer} }
func one(l ...rune) api.Cell  { return api.Cell{Kind: api.One, Text: l} }
func lead(l ...rune) api.Cell { return api.Cell{Kind: api.Lead, Text: l} }

func rowOf(t *testing.T, l ...api.Cell) *row.Row {
	t.Helper()
	r, err := row.Of(l...)
	if err != nil {
		t.Fatal(err)
	}
	return r
}

// 30.1, 30.2: the chapter's example.
func TestExample(t *testing.T) {
	r := rowOf(t, one(0x61), blankCell(), lead(0x4e00), spacer(), blankCell())
	if got := Text(r); !slices.Equal(got, []rune{0x61, 0x4e00}) {
		t.Errorf("Text: %x", got)
	}
	if got := Plain(r); !slices.Equal(got, []rune{0x61, 0x20, 0x4e00}) {
		t.Errorf("Plain: %x", got)
	}
	if Used(r) != 4 || Find(r, 0x4e00) != 2 {
		t.Error(Used(r), Find(r, 0x4e00))
	}
}

// 30.1: rows without clusters, and a nil one.
func TestEmpty(t *testing.T) {
	for _, r := range []*row.Row{nil, row.New(1), row.New(9)} {
		if len(Text(r)) > 0 || len(Plain(r)) > 0 || Used(r) != 0 || Find(r, 0x61) != -1 || Find(r) != -1 || Find(r, 0x20) != -1 {
			t.Error("a row of blanks has a text")
		}
	}
	if r := rowOf(t, lead(0x61), spacer()); Used(r) != 2 || Find(r) != -1 {
		t.Error(Used(r))
	}
}

// 30.2: where texts stand.
func TestFind(t *testing.T) {
	r := rowOf(t, one(0x61, 0x301), one(0x61), lead(0x4e00), spacer(), one(0x62), blankCell(), one(0x62), one(0x20))
	for _, x := range []struct {
		text []rune
		want int
	}{
		{[]rune{0x61}, 1}, {[]rune{0x61, 0x301}, 0}, {[]rune{0x301}, -1}, {[]rune{0x61, 0x4e00}, 1}, {[]rune{0x61, 0x301, 0x61, 0x4e00, 0x62}, 0},
		{[]rune{0x62}, 4}, {[]rune{0x62, 0x62}, -1}, {[]rune{0x62, 0x20}, 6}, {[]rune{0x62, 0x20, 0x62}, -1}, {[]rune{0x20}, 7}, {[]rune{0x20, 0x61}, -1},
		{[]rune{0x4e00}, 2}, {[]rune{-1}, -1}, {slices.Repeat([]rune{0x61}, 99), -1},
	} {
		if got := Find(r, x.text...); got != x.want {
			t.Errorf("Find(%x): %d", x.text, got)
		}
	}
}

// 30.1, 30.2, 30.3: any rows.
func TestAny(t *testing.T) {
	rnd := rand.New(rand.NewSource(30))
	for range 5000 {
		var cells []api.Cell
		for range 1 + rnd.Intn(6) {
			cells = append(cells, cell.Of(1+rnd.Intn(2), slices.Repeat([]rune{rune(0x61 + rnd.Intn(2))}, rnd.Intn(3))...)...)
		}
		r := rowOf(t, cells...)
		var text, plain []rune
		used, gap := 0, false
		for i, c := range cells {
			if c.Kind != api.Blank {
				used = i + 1
			}
		}
		for _, c := range cells[:used] {
			if c.Kind == api.Blank {
				plain = append(plain, 0x20)
				gap = true
			}
			text = append(text, c.Text...)
			plain = append(plain, c.Text...)
		}
		if Used(r) != used || !slices.Equal(Text(r), text) || !slices.Equal(Plain(r), plain) || !gap && !slices.Equal(Text(r), Plain(r)) {
			t.Fatalf("%v: %d, %x, %x", cells, Used(r), Text(r), Plain(r))
		}
		sought := slices.Repeat([]rune{0x61}, 1+rnd.Intn(3))
		if got, want := Find(r, sought...), found(cells, sought); got != want {
			t.Fatalf("%v: %x stands at %d, not %d", cells, sought, got, want)
		}
	}
}

// found tries all stretches of cells.
func found(cells []api.Cell, text []rune) int {
	for from := range cells {
		for to := from + 1; to <= len(cells); to++ {
			part := cells[from:to]
			gap := slices.ContainsFunc(part, func(c api.Cell) bool { return c.Kind == api.Blank })
			if !gap && part[0].Kind != api.Spacer && slices.Equal(cell.Text(part...), text) {
				return from
			}
		}
	}
	return -1
}
