package shift

import (
	"math"
	"math/rand"
	"slices"
	"testing"

	"linotype/api"
	"linotype/cell"
	"linotype/row"
)

func blank() api.Cell         { return api.Cell{} }
func spacer() api.Cell        { return api.Cell{Kind: api.Spacer} }
func one(l ...rune) api.Cell  { return api.Cell{Kind: api.One, Text: l} }
func lead(l ...rune) api.Cell { return api.Cell{Kind: api.Lead, Text: l} }

func rowOf(t *testing.T, l ...api.Cell) *row.Row {
	t.Helper()
	r, err := row.Of(l...)
	if err != nil {
		t.Fatal(err)
	}
	r.GoOn(true)
	return r
}

func someStrip(rnd *rand.Rand, n int) []api.Cell {
	var l []api.Cell
	for len(l) < n {
		switch k := rnd.Intn(5); {
		case k == 0:
			l = append(l, blank())
		case k == 1 || len(l)+1 == n:
			l = append(l, one(rune(0x61+len(l))))
		default:
			l = append(l, lead(rune(0x4e00+len(l))), spacer())
		}
	}
	return l
}

// torn is a strip whose cluster about a column is blank.
func torn(l []api.Cell, col int) []api.Cell {
	l = slices.Clone(l)
	if col < len(l) && l[col].Kind == api.Spacer {
		l[col-1], l[col] = blank(), blank()
	}
	return l
}

// 27.1, 27.2: the chapter's examples, and others.
func TestExamples(t *testing.T) {
	r := rowOf(t, one(0x61), lead(0x4e00), spacer())
	Insert(r, 0, 1)
	if !cell.Same(r.Cells(), []api.Cell{blank(), one(0x61), blank()}) || r.Wrap() {
		t.Error(r.Cells(), r.Wrap())
	}
	Delete(r, 1, 1)
	if !cell.Same(r.Cells(), cell.Blanks(3)) {
		t.Error(r.Cells())
	}
	r = rowOf(t, one(0x61), lead(0x4e00), spacer())
	Delete(r, 1, 1)
	if !cell.Same(r.Cells(), []api.Cell{one(0x61), blank(), blank()}) || r.Wrap() {
		t.Error(r.Cells(), r.Wrap())
	}
	r = rowOf(t, lead(0x4e00), spacer(), one(0x61), one(0x62))
	Insert(r, 1, 1)
	if !cell.Same(r.Cells(), []api.Cell{blank(), blank(), blank(), one(0x61)}) {
		t.Error(r.Cells())
	}
	r = rowOf(t, one(0x61), lead(0x4e00), spacer(), one(0x62))
	Delete(r, 0, 2)
	if !cell.Same(r.Cells(), []api.Cell{blank(), one(0x62), blank(), blank()}) {
		t.Error(r.Cells())
	}
}

// 27.1, 27.2: nothing is to be done.
func TestNothing(t *testing.T) {
	in := []api.Cell{one(0x61), lead(0x4e00), spacer()}
	for _, x := range [][2]int{{-1, 1}, {3, 1}, {0, 0}, {2, -1}, {math.MinInt, 5}, {math.MaxInt, 5}, {1, math.MinInt}} {
		r := rowOf(t, in...)
		Insert(r, x[0], x[1])
		Delete(r, x[0], x[1])
		if !cell.Same(r.Cells(), in) || !r.Wrap() {
			t.Errorf("%d: %v, %v", x, r.Cells(), r.Wrap())
		}
	}
	Insert(nil, 0, 1)
	Delete(nil, 0, 1)
}

// 27.1, 27.2, 27.3: any rows, by the chapter's words.
func TestAny(t *testing.T) {
	rnd := rand.New(rand.NewSource(27))
	for range 20000 {
		w := 1 + rnd.Intn(8)
		in := someStrip(rnd, w)
		col, n := rnd.Intn(w), 1+rnd.Intn(10)
		if rnd.Intn(9) == 0 {
			n = math.MaxInt
		}
		k := min(n, w-col)

		r := rowOf(t, in...)
		Insert(r, col, n)
		c := torn(in, col)
		want := slices.Concat(c[:col], cell.Blanks(k), c[col:])[:w]
		if want[w-1].Kind == api.Lead {
			want[w-1] = blank()
		}
		if !cell.Same(r.Cells(), want) || r.Wrap() || !cell.Sound(r.Cells()...) {
			t.Fatalf("Insert(%d, %d) of %v: %v", col, n, in, r.Cells())
		}

		r = rowOf(t, in...)
		Delete(r, col, n)
		c = torn(torn(in, col), col+k)
		want = slices.Concat(c[:col], c[col+k:], cell.Blanks(k))
		if !cell.Same(r.Cells(), want) || r.Wrap() || !cell.Sound(r.Cells()...) {
			t.Fatalf("Delete(%d, %d) of %v: %v", col, n, in, r.Cells())
		}
	}
}

// 27.3: Delete behind Insert leaves what had room, where no cluster was torn.
func TestThereAndBack(t *testing.T) {
	rnd := rand.New(rand.NewSource(273))
	for range 5000 {
		w := 2 + rnd.Intn(7)
		in := someStrip(rnd, w)
		col := rnd.Intn(w)
		n := 1 + rnd.Intn(w-col)
		if in[col].Kind == api.Spacer {
			continue
		}
		r := rowOf(t, in...)
		Insert(r, col, n)
		Delete(r, col, n)
		want := append(slices.Clone(in[:w-n]), cell.Blanks(n)...)
		if last := w - n - 1; last >= 0 && want[last].Kind == api.Lead {
			want[last] = blank()
		}
		if !cell.Same(r.Cells(), want) {
			t.Fatalf("%d, %d of %v: %v", col, n, in, r.Cells())
		}
	}
}
