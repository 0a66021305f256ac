package mark

import (
	"math"
	"slices"
	"testing"

	"linotype/api"
	"linotype/cell"
	"linotype/row"
)

func blank() api.Cell         { return api.Cell{} }
func spacer() api.Cell        { return api.Cell{Kind: api.Spacer} }
func one(l ...rune) api.Cell  { return api.Cell{Kind: api.One, Text: l} }
func lead(l ...rune) api.Cell { return api.Cell{Kind: api.Lead, Text: l} }

// sample is a row that goes on: One, Lead, Spacer, Blank, One.
func sample(t *testing.T) *row.Row {
	t.Helper()
	r, err := row.Of(one(0x61), lead(0x4e00, 0x301), spacer(), blank(), one(0x62))
	if err != nil {
		t.Fatal(err)
	}
	r.GoOn(true)
	return r
}

func isRow(t *testing.T, r *row.Row, wrap bool, l ...api.Cell) {
	t.Helper()
	if !cell.Same(r.Cells(), l) || r.Wrap() != wrap {
		t.Errorf("%v, %v", r.Cells(), r.Wrap())
	}
}

// 25.1: the cluster at each column.
func TestAt(t *testing.T) {
	r := sample(t)
	for col, want := range map[int]struct {
		from, wide int
		text       []rune
		ok         bool
	}{
		math.MinInt: {}, -1: {}, 3: {}, 5: {}, math.MaxInt: {},
		0: {0, 1, []rune{0x61}, true},
		1: {1, 2, []rune{0x4e00, 0x301}, true},
		2: {1, 2, []rune{0x4e00, 0x301}, true},
		4: {4, 1, []rune{0x62}, true},
	} {
		from, c, ok := At(r, col)
		if from != want.from || c.Wide != want.wide || !slices.Equal(c.Text, want.text) || ok != want.ok {
			t.Errorf("At(%d): %d, %v, %v", col, from, c, ok)
		}
		clear(c.Text)
	}
	if _, _, ok := At(nil, 0); ok {
		t.Error("a nil row has a cluster")
	}
	isRow(t, r, true, one(0x61), lead(0x4e00, 0x301), spacer(), blank(), one(0x62))
}

// 25.1: clusters put anywhere.
func TestPut(t *testing.T) {
	r := sample(t)
	if err := Put(r, 2, 1, 0x63, 0x301); err != nil {
		t.Error(err)
	}
	isRow(t, r, true, one(0x61), blank(), one(0x63, 0x301), blank(), one(0x62))
	if err := Put(r, 3, 2, 0x4e01); err != nil {
		t.Error(err)
	}
	isRow(t, r, false, one(0x61), blank(), one(0x63, 0x301), lead(0x4e01), spacer())
	if err := Put(r, 0, 2); err != nil {
		t.Error(err)
	}
	isRow(t, r, false, blank(), blank(), one(0x63, 0x301), lead(0x4e01), spacer())
	if err := Put(r, 0, 1, -1); err != nil {
		t.Error(err)
	}
	isRow(t, r, false, one(0xfffd), blank(), one(0x63, 0x301), lead(0x4e01), spacer())
}

// 25.1: what has no room changes nothing.
func TestPutWrong(t *testing.T) {
	for _, x := range []struct{ col, wide int }{{-1, 1}, {5, 1}, {4, 2}, {math.MaxInt, 1}, {math.MinInt, 2}, {6, 1}} {
		r := sample(t)
		if err := Put(r, x.col, x.wide, 0x63); api.Code(err) != 3 {
			t.Errorf("Put(%d, %d): %v", x.col, x.wide, err)
		}
		isRow(t, r, true, one(0x61), lead(0x4e00, 0x301), spacer(), blank(), one(0x62))
	}
	if api.Code(Put(nil, 0, 1, 0x61)) != 3 {
		t.Error("a cluster is put into a nil row")
	}
}

// 25.2: clusters made longer, at any of their columns.
func TestAdd(t *testing.T) {
	r := sample(t)
	if !Add(r, 0, 0x301) || !Add(r, 2, 0x302) || !Add(r, 1, -1) {
		t.Error("nothing is added")
	}
	isRow(t, r, true, one(0x61, 0x301), lead(0x4e00, 0x301, 0x302, 0xfffd), spacer(), blank(), one(0x62))
	if !Add(r, 4, 0x303) {
		t.Error("nothing is added at the last column")
	}
	isRow(t, r, false, one(0x61, 0x301), lead(0x4e00, 0x301, 0x302, 0xfffd), spacer(), blank(), one(0x62, 0x303))
	for _, col := range []int{-1, 3, 5, math.MinInt, math.MaxInt} {
		if Add(r, col, 0x301) {
			t.Errorf("something is added at %d", col)
		}
	}
	if Add(nil, 0, 0x301) || Widen(nil, 0) {
		t.Error("a nil row has a cluster")
	}
}

// 25.2: at most sixteen numbers.
func TestAddFull(t *testing.T) {
	r := sample(t)
	for i := range 20 {
		if got := Add(r, 4, 0x301); got != (i < 15) {
			t.Errorf("number %d is added: %v", i+1, got)
		}
	}
	r.GoOn(true)
	if Add(r, 4, 0x301) || !r.Wrap() {
		t.Error("what is full is painted anew")
	}
}

// 25.2: clusters made wider.
func TestWiden(t *testing.T) {
	r := sample(t)
	for _, col := range []int{-1, 1, 2, 3, 4, 5, math.MinInt, math.MaxInt} {
		if Widen(r, col) {
			t.Errorf("Widen(%d) is true", col)
		}
	}
	isRow(t, r, true, one(0x61), lead(0x4e00, 0x301), spacer(), blank(), one(0x62))
	if !Widen(r, 0) {
		t.Error("nothing is made wider")
	}
	isRow(t, r, true, lead(0x61), spacer(), blank(), blank(), one(0x62))
}

// 25.3: what is widened is as what had been put 2 wide at once; the chapter's example.
func TestWidened(t *testing.T) {
	for col := range 4 {
		a, b := sample(t), sample(t)
		if Put(a, col, 1, 0x2764) != nil || !Widen(a, col) || !Add(a, col+1, 0xfe0f) || Put(b, col, 2, 0x2764, 0xfe0f) != nil {
			t.Errorf("at %d nothing is widened", col)
		}
		isRow(t, a, b.Wrap(), b.Cells()...)
	}
}
