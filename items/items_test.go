package items

import (
	"math"
	"math/rand"
	"slices"
	"testing"

	"linotype/api"
	"linotype/cell"
)

func blank() api.Cell         { return api.Cell{} }
func spacer() api.Cell        { return api.Cell{Kind: api.Spacer} }
func one(l ...rune) api.Cell  { return api.Cell{Kind: api.One, Text: l} }
func lead(l ...rune) api.Cell { return api.Cell{Kind: api.Lead, Text: l} }

func item(wide int, l ...rune) api.Item { return api.Item{Wide: wide, Text: l} }

func sameItem(a, b api.Item) bool {
	return a.Wide == b.Wide && slices.Equal(a.Text, b.Text)
}

func numbers(n int) []rune { return slices.Repeat([]rune{0x61}, n) }

// 29.1: which items may be.
func TestRight(t *testing.T) {
	for _, x := range []api.Item{item(1), item(1, 0x61), item(2, 0x61), item(2, numbers(16)...), item(1, 0, 0x10ffff), {Wide: 1, Text: []rune{}}} {
		if !Right(x) {
			t.Errorf("%v may not be", x)
		}
	}
	for _, x := range []api.Item{item(0), item(2), item(-1), item(0, 0x61), item(3, 0x61), item(math.MinInt, 0x61), item(math.MaxInt), item(1, numbers(17)...), item(1, 0xd800), item(2, 0x61, -1), item(1, 0x110000)} {
		if Right(x) {
			t.Errorf("%v may be", x)
		}
	}
}

// 29.1, 29.2: the chapter's example.
func TestExample(t *testing.T) {
	got, err := Of(one(0x61), lead(0x4e00), spacer(), blank())
	want := []api.Item{item(1, 0x61), item(2, 0x4e00), item(1)}
	if err != nil || !slices.EqualFunc(got, want, sameItem) {
		t.Error(got, err)
	}
	if cols := Columns(got...); !slices.Equal(cols, []int{0, 1, 3}) || Wide(got...) != 4 {
		t.Error(cols, Wide(got...))
	}
}

// 29.1: what is wrong.
func TestWrong(t *testing.T) {
	for _, l := range [][]api.Cell{{spacer()}, {blank(), lead(0x61)}, {one()}, {one(-1)}, {{Kind: 7}}} {
		if got, err := Of(l...); api.Code(err) != 5 || api.At(err) != -1 || len(got) > 0 {
			t.Errorf("%v: %v, %v", l, got, err)
		}
	}
	for _, x := range []struct {
		l  []api.Item
		at int
	}{{[]api.Item{item(2)}, 0}, {[]api.Item{item(1), item(1, 0x61), item(3, 0x61), item(0)}, 2}} {
		if got, err := Cells(x.l...); api.Code(err) != 5 || api.At(err) != x.at || api.Within(err) != -1 || len(got) > 0 {
			t.Errorf("%v: %v, %v", x.l, got, err)
		}
	}
}

// 29.2: widths of whatever items.
func TestWide(t *testing.T) {
	l := []api.Item{item(0), item(7), item(math.MinInt, 0x61), item(math.MaxInt), item(2)}
	if Wide(l...) != 8 || !slices.Equal(Columns(l...), []int{0, 1, 3, 4, 6}) {
		t.Error(Wide(l...), Columns(l...))
	}
	if Wide() != 0 || len(Columns()) > 0 {
		t.Error("nothing is wide")
	}
}

// 29.1, 29.3: strips and items tell one another.
func TestBoth(t *testing.T) {
	rnd := rand.New(rand.NewSource(29))
	for range 3000 {
		var cells []api.Cell
		var want []api.Item
		for range rnd.Intn(6) {
			x := item(1+rnd.Intn(2), numbers(rnd.Intn(17))...)
			if len(x.Text) == 0 {
				x.Wide = 1
			}
			want = append(want, x)
			cells = append(cells, cell.Of(x.Wide, x.Text...)...)
		}
		got, err := Of(cells...)
		if err != nil || !slices.EqualFunc(got, want, sameItem) {
			t.Fatalf("%v: %v, %v", cells, got, err)
		}
		back, err := Cells(got...)
		if err != nil || !cell.Same(back, cells) || Wide(got...) != len(cells) {
			t.Fatalf("%v: %v, %v", got, back, err)
		}
		for i, col := range Columns(got...) {
			if cells[col].Kind == api.Spacer || !slices.Equal(cells[col].Text, got[i].Text) {
				t.Fatalf("item %d of %v stands at %d", i, got, col)
			}
		}
		for i := range got {
			clear(got[i].Text)
		}
		if !cell.Same(back, cells) {
			t.Fatal("items share memory with cells")
		}
	}
}
