package fit

import (
	"math"
	"math/rand"
	"slices"
	"testing"

	"linotype/api"
	"linotype/cell"
	"linotype/row"
)

func blank() api.Cell         { return api.Cell{} }
func spacer() api.Cell        { return api.Cell{Kind: api.Spacer} }
func one(l ...rune) api.Cell  { return api.Cell{Kind: api.One, Text: l} }
func lead(l ...rune) api.Cell { return api.Cell{Kind: api.Lead, Text: l} }

func rowOf(t *testing.T, l ...api.Cell) *row.Row {
	t.Helper()
	r, err := row.Of(l...)
	if err != nil {
		t.Fatal(err)
	}
	r.GoOn(true)
	return r
}

func someStrip(rnd *rand.Rand, n int) []api.Cell {
	var l []api.Cell
	for len(l) < n {
		switch k := rnd.Intn(5); {
		case k == 0:
			l = append(l, blank())
		case k == 1 || len(l)+1 == n:
			l = append(l, one(rune(0x61+len(l))))
		default:
			l = append(l, lead(rune(0x4e00+len(l))), spacer())
		}
	}
	return l
}

func isRow(t *testing.T, r *row.Row, l ...api.Cell) {
	t.Helper()
	if r == nil || !cell.Same(r.Cells(), l) || r.Wrap() {
		t.Errorf("%v, not %v", r.Cells(), l)
	}
}

// 28.1: the chapter's example, and edges.
func TestResize(t *testing.T) {
	in := []api.Cell{one(0x61), lead(0x4e00), spacer()}
	r := rowOf(t, in...)
	isRow(t, Resize(r, 2), one(0x61), blank())
	isRow(t, Resize(r, 1), one(0x61))
	isRow(t, Resize(r, 0), one(0x61))
	isRow(t, Resize(r, math.MinInt), one(0x61))
	isRow(t, Resize(r, 3), in...)
	isRow(t, Resize(r, 5), one(0x61), lead(0x4e00), spacer(), blank(), blank())
	if big := Resize(r, math.MaxInt); big.Wide() != 1024 || !cell.Same(big.Cells()[:3], in) {
		t.Error(big.Wide())
	}
	if Resize(nil, 3) != nil {
		t.Error("a nil row becomes one")
	}
	if err := Resize(r, 3).Paint(0, blank()); err != nil || !cell.Same(r.Cells(), in) || !r.Wrap() {
		t.Errorf("the row became %v", r.Cells())
	}
}

// 28.2: cut in two.
func TestSplit(t *testing.T) {
	r := rowOf(t, one(0x61), lead(0x4e00), spacer(), one(0x62))
	left, right := Split(r, 1)
	isRow(t, left, one(0x61))
	isRow(t, right, lead(0x4e00), spacer(), one(0x62))
	left, right = Split(r, 2)
	isRow(t, left, one(0x61), blank())
	isRow(t, right, blank(), one(0x62))
	for _, col := range []int{math.MinInt, -1, 0, 4, 5, math.MaxInt} {
		if left, right = Split(r, col); left != nil || right != nil {
			t.Errorf("Split at %d: %v, %v", col, left, right)
		}
	}
	if left, right = Split(nil, 1); left != nil || right != nil {
		t.Error("a nil row is cut")
	}
	if !cell.Same(r.Cells(), []api.Cell{one(0x61), lead(0x4e00), spacer(), one(0x62)}) || !r.Wrap() {
		t.Errorf("the row became %v", r.Cells())
	}
}

// 28.3: put together.
func TestJoin(t *testing.T) {
	a, b := rowOf(t, one(0x61)), rowOf(t, lead(0x4e00), spacer())
	isRow(t, Join(a), one(0x61))
	isRow(t, Join(a, b, a), one(0x61), lead(0x4e00), spacer(), one(0x61))
	for _, l := range [][]*row.Row{nil, {nil}, {a, nil}, {nil, a}, {row.New(1024), a}, {row.New(1000), row.New(25)}} {
		if Join(l...) != nil {
			t.Errorf("%d rows are put together", len(l))
		}
	}
	if got := Join(row.New(1000), row.New(24)); got.Wide() != 1024 {
		t.Error(got.Wide())
	}
}

// 28.4: there and back.
func TestThereAndBack(t *testing.T) {
	rnd := rand.New(rand.NewSource(28))
	for range 5000 {
		w := 1 + rnd.Intn(7)
		in := someStrip(rnd, w)
		r := rowOf(t, in...)
		isRow(t, Resize(Resize(r, w+rnd.Intn(4)), w), in...)
		narrow := 1 + rnd.Intn(w)
		want := slices.Clone(in[:narrow])
		if want[narrow-1].Kind == api.Lead {
			want[narrow-1] = blank()
		}
		isRow(t, Resize(r, narrow), want...)
		if w > 1 {
			col := 1 + rnd.Intn(w-1)
			want = slices.Clone(in)
			if want[col].Kind == api.Spacer {
				want[col-1], want[col] = blank(), blank()
			}
			isRow(t, Join(Split(r, col)), want...)
		}
	}
}
