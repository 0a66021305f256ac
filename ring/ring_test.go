package ring

import (
	"math"
	"math/rand"
	"slices"
	"testing"

	"linotype/api"
)

// line is one by which it is known.
func line(n int) api.Line {
	return api.Line{Wrap: n%2 == 0, Cells: []api.Cell{{Kind: 7, Text: []rune{rune(n)}}}}
}

func number(l api.Line) int {
	if len(l.Cells) != 1 || len(l.Cells[0].Text) != 1 || l.Cells[0].Kind != 7 {
		return -1
	}
	n := int(l.Cells[0].Text[0])
	if l.Wrap != (n%2 == 0) {
		return -1
	}
	return n
}

func numbers(l []api.Line) []int {
	var all []int
	for _, x := range l {
		all = append(all, number(x))
	}
	return all
}

// 50.1: the chapter's example.
func TestExample(t *testing.T) {
	r := New(2)
	r.Push(line(1), line(2), line(3))
	if r.Len() != 2 || r.Gone() != 1 || !slices.Equal(numbers(r.Last(9)), []int{2, 3}) {
		t.Error(r.Len(), r.Gone(), r.Last(9))
	}
	if x, ok := r.At(0); !ok || number(x) != 2 {
		t.Error(x, ok)
	}
}

// 50.1: how many lines are kept at most.
func TestMost(t *testing.T) {
	for most, want := range map[int]int{math.MinInt: 1, 0: 1, 1: 1, 3: 3, 1 << 16: 1 << 16, 1<<16 + 1: 1 << 16, math.MaxInt: 1 << 16} {
		r := New(most)
		r.Push(slices.Repeat([]api.Line{{}}, 1<<16+5)...)
		if r.Len() != want || r.Gone() != 1<<16+5-want {
			t.Errorf("New(%d): %d, %d", most, r.Len(), r.Gone())
		}
	}
}

// 50.1: as many as 2^30 are counted.
func TestGone(t *testing.T) {
	r := New(3)
	r.gone = 1<<30 - 2
	r.Push(line(1), line(2), line(3), line(4))
	if r.Gone() != 1<<30-1 {
		t.Error(r.Gone())
	}
	r.Clear()
	if r.Gone() != 1<<30 || r.Len() != 0 {
		t.Error(r.Gone(), r.Len())
	}
	r.Push(line(1), line(2), line(3), line(4))
	if r.Gone() != 1<<30 || r.Len() != 3 {
		t.Error(r.Gone(), r.Len())
	}
}

// 50.2: a nil ring.
func TestNil(t *testing.T) {
	var r *Ring
	r.Push(line(1))
	r.Clear()
	x, ok := r.At(0)
	if r.Len() != 0 || r.Gone() != 0 || ok || x.Cells != nil || len(r.Last(5)) > 0 {
		t.Error("a nil ring has something")
	}
}

// 50.2: memory of their own.
func TestMemory(t *testing.T) {
	r := New(2)
	in := line(1)
	r.Push(in)
	in.Cells[0].Text[0] = 9
	in.Cells[0].Kind = 8
	x, _ := r.At(0)
	x.Cells[0].Text[0] = 9
	r.Last(1)[0].Cells[0] = api.Cell{}
	if x, _ = r.At(0); number(x) != 1 {
		t.Error(x)
	}
}

// 50.1, 50.2, 50.3: what is there is the newest of what was pushed.
func TestAny(t *testing.T) {
	rnd := rand.New(rand.NewSource(50))
	for range 500 {
		most := 1 + rnd.Intn(5)
		r := New(most)
		var there []int
		next, gone := 0, 0
		for range 20 {
			var l []api.Line
			for range rnd.Intn(8) {
				l = append(l, line(next))
				there = append(there, next)
				next++
			}
			r.Push(l...)
			if k := len(there) - most; k > 0 {
				there = there[k:]
				gone += k
			}
			if rnd.Intn(8) == 0 {
				gone += len(there)
				there = nil
				r.Clear()
			}
			if r.Len() != len(there) || r.Gone() != gone {
				t.Fatalf("%d there, %d gone, not %d, %d", r.Len(), r.Gone(), len(there), gone)
			}
			for i := -2; i < len(there)+2; i++ {
				x, ok := r.At(i)
				if ok != (i >= 0 && i < len(there)) || ok && number(x) != there[i] || !ok && x.Cells != nil {
					t.Fatalf("At(%d) of %d: %v", i, there, x)
				}
			}
			for _, n := range []int{math.MinInt, -1, 0, 1, 2, 3, math.MaxInt} {
				want := there[len(there)-min(max(n, 0), len(there)):]
				if got := numbers(r.Last(n)); !slices.Equal(got, want) {
					t.Fatalf("Last(%d) of %d: %d", n, there, got)
				}
			}
		}
	}
}
