package erase

import (
	"math"
	"math/big"
	"math/rand"
	"testing"

	"linotype/api"
	"linotype/cell"
	"linotype/row"
)

func blank() api.Cell         { return api.Cell{} }
func spacer() api.Cell        { return api.Cell{Kind: api.Spacer} }
func one(l ...rune) api.Cell  { return api.Cell{Kind: api.One, Text: l} }
func lead(l ...rune) api.Cell { return api.Cell{Kind: api.Lead, Text: l} }

func someRow(rnd *rand.Rand) *row.Row {
	n := 1 + rnd.Intn(7)
	var l []api.Cell
	for len(l) < n {
		switch k := rnd.Intn(5); {
		case k == 0:
			l = append(l, blank())
		case k == 1 || len(l)+1 == n:
			l = append(l, one(0x61))
		default:
			l = append(l, lead(0x4e00), spacer())
		}
	}
	r, err := row.Of(l...)
	if err != nil {
		panic(err)
	}
	r.GoOn(true)
	return r
}

func someNumber(rnd *rand.Rand) int {
	if far := []int{math.MinInt, math.MaxInt, math.MaxInt - 1, math.MinInt + 1}; rnd.Intn(6) == 0 {
		return far[rnd.Intn(len(far))]
	}
	return rnd.Intn(12) - 2
}

// held is a sum of whole numbers, taken from 0 to w.
func held(w int, l ...int) int {
	sum := new(big.Int)
	for _, n := range l {
		sum.Add(sum, big.NewInt(int64(n)))
	}
	if sum.Sign() < 0 {
		return 0
	}
	if sum.Cmp(big.NewInt(int64(w))) > 0 {
		return w
	}
	return int(sum.Int64())
}

// erased is a copy of a row whose cells between two were painted with blanks.
func erased(r *row.Row, from, to int) *row.Row {
	c := r.Copy()
	if from < to {
		if err := c.Paint(from, cell.Blanks(to-from)...); err != nil {
			panic(err)
		}
	}
	return c
}

func same(a, b *row.Row) bool {
	return cell.Same(a.Cells(), b.Cells()) && a.Wrap() == b.Wrap()
}

// 26.1: the chapter's example.
func TestExample(t *testing.T) {
	r, _ := row.Of(lead(0x4e00), spacer(), one(0x61))
	Cells(r, 0, 1)
	if !cell.Same(r.Cells(), []api.Cell{blank(), blank(), one(0x61)}) {
		t.Error(r.Cells())
	}
}

// 26.1, 26.2: any rows and numbers.
func TestAny(t *testing.T) {
	rnd := rand.New(rand.NewSource(26))
	for range 20000 {
		r := someRow(rnd)
		w := r.Wide()
		a, b := someNumber(rnd), someNumber(rnd)
		check := func(what string, got, want *row.Row) {
			t.Helper()
			if !same(got, want) {
				t.Fatalf("%s of %v, %d, %d: %v, %v", what, r.Cells(), a, b, got.Cells(), got.Wrap())
			}
		}
		c := r.Copy()
		Range(c, a, b)
		check("Range", c, erased(r, held(w, a), held(w, b)))
		c = r.Copy()
		Left(c, a)
		if a < 0 {
			check("Left", c, r)
		} else {
			check("Left", c, erased(r, 0, held(w, a, 1)))
		}
		c = r.Copy()
		Right(c, a)
		check("Right", c, erased(r, held(w, a), w))
		c = r.Copy()
		Cells(c, a, b)
		if a < 0 || b < 1 {
			check("Cells", c, r)
		} else {
			check("Cells", c, erased(r, held(w, a), held(w, a, b)))
		}
		c = r.Copy()
		All(c)
		check("All", c, row.New(w))
	}
}

// 26.1: a nil row.
func TestNil(t *testing.T) {
	Range(nil, 0, 5)
	Left(nil, 3)
	Right(nil, 0)
	All(nil)
	Cells(nil, 0, 1)
}
