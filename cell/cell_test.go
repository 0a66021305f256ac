package cell

import (
	"math"
	"math/rand"
	"slices"
	"testing"

	"linotype/api"
)

func blank() api.Cell                { return api.Cell{} }
func spacer() api.Cell               { return api.Cell{Kind: api.Spacer} }
func one(l ...rune) api.Cell         { return api.Cell{Kind: api.One, Text: l} }
func lead(l ...rune) api.Cell        { return api.Cell{Kind: api.Lead, Text: l} }
func numbers(n int) []rune           { return slices.Repeat([]rune{0x61}, n) }
func wrongBlank() api.Cell           { return api.Cell{Text: []rune{0x61}} }
func wrongKind(k int) api.Cell       { return api.Cell{Kind: k} }
func kindOne(k int) api.Cell         { return api.Cell{Kind: k, Text: []rune{0x61}} }
func emptyText(k int) api.Cell       { return api.Cell{Kind: k, Text: []rune{}} }
func wrongSpacer() api.Cell          { return api.Cell{Kind: api.Spacer, Text: []rune{0x20}} }
func strip(l ...api.Cell) []api.Cell { return l }

// 23.1: which cells may be.
func TestRight(t *testing.T) {
	for _, c := range []api.Cell{blank(), spacer(), one(0), one(0x61, 0x301), lead(0x10ffff), one(numbers(16)...), lead(numbers(16)...), emptyText(api.Blank), emptyText(api.Spacer)} {
		if !Right(c) {
			t.Errorf("%v may not be", c)
		}
	}
	for _, c := range []api.Cell{wrongBlank(), wrongSpacer(), one(), lead(), emptyText(api.One), one(0xd800), lead(0x61, -1), one(0x110000), one(numbers(17)...), lead(numbers(17)...), wrongKind(-1), wrongKind(4), kindOne(4), kindOne(math.MinInt), wrongKind(math.MaxInt)} {
		if Right(c) {
			t.Errorf("%v may be", c)
		}
	}
}

// 23.1: which strips are sound.
func TestSound(t *testing.T) {
	for _, l := range [][]api.Cell{nil, {}, {blank()}, {lead(0x61), spacer()}, {one(0x61), lead(0x62), spacer(), lead(0x63), spacer(), blank()}} {
		if !Sound(l...) {
			t.Errorf("%v is not sound", l)
		}
	}
	for _, l := range [][]api.Cell{{spacer()}, {lead(0x61)}, {lead(0x61), blank()}, {lead(0x61), lead(0x61), spacer()}, {lead(0x61), spacer(), spacer()}, {one(0x61), spacer()}, {blank(), one()}, {lead(0xd800), spacer()}, {lead(0x61), wrongSpacer()}, {blank(), wrongKind(7)}} {
		if Sound(l...) {
			t.Errorf("%v is sound", l)
		}
	}
}

// 23.1: blanks.
func TestBlanks(t *testing.T) {
	for n, want := range map[int]int{math.MinInt: 0, -1: 0, 0: 0, 1: 1, 1024: 1024, 1025: 1024, math.MaxInt: 1024} {
		l := Blanks(n)
		if len(l) != want || slices.ContainsFunc(l, func(c api.Cell) bool { return c.Kind != api.Blank || len(c.Text) > 0 }) {
			t.Errorf("Blanks(%d): %d", n, len(l))
		}
	}
}

// 23.2: strips of clusters.
func TestOf(t *testing.T) {
	for _, x := range []struct {
		wide int
		text []rune
		want []api.Cell
	}{
		{2, []rune{0x4e00}, strip(lead(0x4e00), spacer())},
		{1, []rune{0x61, 0x301}, strip(one(0x61, 0x301))},
		{0, []rune{0x61}, strip(one(0x61))},
		{math.MinInt, []rune{0x61}, strip(one(0x61))},
		{math.MaxInt, []rune{0x61}, strip(lead(0x61), spacer())},
		{1, nil, strip(blank())},
		{-5, nil, strip(blank())},
		{2, nil, strip(blank(), blank())},
		{9, []rune{}, strip(blank(), blank())},
		{1, []rune{-1, 0x61, 0xd800, 0x110000}, strip(one(0xfffd, 0x61, 0xfffd, 0xfffd))},
		{2, numbers(17), strip(lead(numbers(16)...), spacer())},
		{1, numbers(40), strip(one(numbers(16)...))},
	} {
		if got := Of(x.wide, x.text...); !Same(got, x.want) || !Sound(got...) {
			t.Errorf("Of(%d, %x): %v", x.wide, x.text, got)
		}
	}
	text := []rune{0x61, -1}
	got := Of(1, text...)
	got[0].Text[0] = 0x62
	if text[0] != 0x61 || text[1] != -1 {
		t.Errorf("what was handed in became %x", text)
	}
}

// 23.3: the same, and texts, of whatever cells.
func TestSameAndText(t *testing.T) {
	a := strip(one(0x61), wrongBlank(), wrongSpacer(), kindOne(9), blank())
	if !Same(a, slices.Clone(a)) || !Same(nil, []api.Cell{}) || !Same(strip(blank()), strip(emptyText(api.Blank))) {
		t.Error("what is the same is not")
	}
	for _, b := range [][]api.Cell{a[:4], append(slices.Clone(a), blank()), {one(0x62), a[1], a[2], a[3], a[4]}, {lead(0x61), a[1], a[2], a[3], a[4]}, {one(0x61, 0x61), a[1], a[2], a[3], a[4]}, nil} {
		if Same(a, b) || Same(b, a) {
			t.Errorf("%v is the same as %v", a, b)
		}
	}
	text := Text(a...)
	if !slices.Equal(text, []rune{0x61, 0x61, 0x20, 0x61}) || len(Text()) > 0 {
		t.Errorf("%x", text)
	}
	text[0] = 0
	if a[0].Text[0] != 0x61 {
		t.Error("a text shares memory with the cells")
	}
}

// 23.4: what is made is sound, and strips together are.
func TestTogether(t *testing.T) {
	rnd := rand.New(rand.NewSource(23))
	for range 500 {
		var l []api.Cell
		for range rnd.Intn(6) {
			l = append(l, Of(rnd.Intn(4), numbers(rnd.Intn(20))...)...)
			l = append(l, Blanks(rnd.Intn(3))...)
		}
		if !Sound(l...) {
			t.Fatalf("%v", l)
		}
	}
}
