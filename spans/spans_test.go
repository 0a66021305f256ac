package spans

import (
	"math"
	"math/rand"
	"slices"
	"testing"

	"linotype/api"
)

type list = []api.Span

// someList is a right list of numbers below 24, with few values, so that spans often touch.
func someList(rnd *rand.Rand) list {
	var l list
	for n := rnd.Intn(4); n < 24; {
		hi := min(n+rnd.Intn(4), 23)
		l = append(l, api.Span{Lo: n, Hi: hi, Val: 1 + rnd.Intn(2)})
		n = hi + 1 + rnd.Intn(2)*rnd.Intn(4)
	}
	return l
}

func valueIn(l list, n int) int {
	for _, s := range l {
		if n >= s.Lo && n <= s.Hi {
			return s.Val
		}
	}
	return 0
}

// fewestOf makes the fewest spans number by number.
func fewestOf(value func(n int) int) list {
	var l list
	for n := range 40 {
		v := value(n)
		if v == 0 {
			continue
		}
		if k := len(l) - 1; k >= 0 && l[k].Hi == n-1 && l[k].Val == v {
			l[k].Hi = n
			continue
		}
		l = append(l, api.Span{Lo: n, Hi: n, Val: v})
	}
	return l
}

func wrongLists() []list {
	return []list{
		{{Lo: -1, Hi: 3, Val: 1}},
		{{Lo: 4, Hi: 3, Val: 1}},
		{{Lo: 0, Hi: 0x110000, Val: 1}},
		{{Lo: 0, Hi: 1, Val: 0}},
		{{Lo: 0, Hi: 1, Val: -1}},
		{{Lo: 0, Hi: 1, Val: 65536}},
		{{Lo: 0, Hi: 1, Val: 1}, {Lo: 1, Hi: 2, Val: 1}},
		{{Lo: 5, Hi: 6, Val: 1}, {Lo: 0, Hi: 1, Val: 1}},
		{{Lo: 0, Hi: 1, Val: 1}, {Lo: 2, Hi: 1, Val: 1}},
		{{Lo: math.MinInt, Hi: math.MaxInt, Val: 1}},
		{{Lo: 0, Hi: math.MaxInt, Val: 1}, {Lo: 0, Hi: 0, Val: 1}},
	}
}

// 6.1: what is wrong is wrong for all calls.
func TestWrong(t *testing.T) {
	for _, l := range wrongLists() {
		if Right(l) || Find(l, 0) != 0 || Find(l, 1) != 0 || len(Fewest(l)) > 0 || Count(l) != 0 || len(Sum(l)) > 0 || len(Sum(list{{Lo: 3, Hi: 4, Val: 1}}, l)) > 0 {
			t.Errorf("%v is taken as right", l)
		}
	}
}

// 6.1: the edges of what is right.
func TestRightEdges(t *testing.T) {
	for _, l := range []list{nil, {}, {{Lo: 0, Hi: 0, Val: 1}}, {{Lo: 0, Hi: 0x10ffff, Val: 65535}}, {{Lo: 0, Hi: 1, Val: 1}, {Lo: 2, Hi: 2, Val: 1}}, {{Lo: 0x10ffff, Hi: 0x10ffff, Val: 1}}} {
		if !Right(l) {
			t.Errorf("%v is not right", l)
		}
	}
	all := list{{Lo: 0, Hi: 0x10ffff, Val: 7}}
	if Count(all) != 0x110000 || Find(all, 0x10ffff) != 7 || Find(all, 0x110000) != 0 || Find(all, -1) != 0 || Find(nil, 0) != 0 || Count(nil) != 0 {
		t.Error(Count(all))
	}
	if Find(all, math.MaxInt) != 0 || Find(all, math.MinInt) != 0 {
		t.Error("a number outside has a value")
	}
}

// 6.1: Find, Fewest and Count, number by number.
func TestOne(t *testing.T) {
	rnd := rand.New(rand.NewSource(6))
	for range 3000 {
		l := someList(rnd)
		before := slices.Clone(l)
		count := 0
		for n := -1; n < 40; n++ {
			if Find(l, n) != valueIn(l, n) {
				t.Fatalf("Find(%v, %d): %d", l, n, Find(l, n))
			}
			if valueIn(l, n) > 0 {
				count++
			}
		}
		if !Right(l) || Count(l) != count {
			t.Fatalf("Count(%v): %d", l, Count(l))
		}
		few := Fewest(l)
		if want := fewestOf(func(n int) int { return valueIn(l, n) }); !slices.Equal(few, want) {
			t.Fatalf("Fewest(%v): %v", l, few)
		}
		if len(few) > 0 {
			few[0].Hi = 99
		}
		if !slices.Equal(l, before) {
			t.Fatalf("%v became %v", before, l)
		}
	}
}

// 6.2: sums, number by number.
func TestSum(t *testing.T) {
	want := list{{Lo: 1, Hi: 3, Val: 1}, {Lo: 4, Hi: 5, Val: 3}, {Lo: 6, Hi: 8, Val: 2}}
	if got := Sum(list{{Lo: 1, Hi: 5, Val: 1}}, list{{Lo: 4, Hi: 8, Val: 2}}); !slices.Equal(got, want) {
		t.Error(got)
	}
	if len(Sum()) > 0 || len(Sum(nil, list{})) > 0 {
		t.Error("of nothing there are sums")
	}
	rnd := rand.New(rand.NewSource(62))
	for range 3000 {
		l := make([]list, rnd.Intn(4))
		for i := range l {
			l[i] = someList(rnd)
		}
		want := fewestOf(func(n int) int {
			sum := 0
			for _, one := range l {
				sum += valueIn(one, n)
			}
			return sum
		})
		if got := Sum(l...); !slices.Equal(got, want) {
			t.Fatalf("Sum(%v): %v, wanted %v", l, got, want)
		}
	}
}

// 6.2: sums up to api.MaxVal.
func TestSumMost(t *testing.T) {
	a, b := list{{Lo: 0, Hi: 9, Val: 65534}}, list{{Lo: 5, Hi: 5, Val: 1}}
	if got := Sum(a, b); !slices.Equal(got, list{{Lo: 0, Hi: 4, Val: 65534}, {Lo: 5, Hi: 5, Val: 65535}, {Lo: 6, Hi: 9, Val: 65534}}) {
		t.Error(got)
	}
	if got := Sum(a, b, b); len(got) > 0 {
		t.Error(got)
	}
	// a sum is looked at as a whole: lists that touch only never stand above one another
	if got := Sum(list{{Lo: 0, Hi: 4, Val: 65535}}, list{{Lo: 5, Hi: 9, Val: 65535}}); !slices.Equal(got, list{{Lo: 0, Hi: 9, Val: 65535}}) {
		t.Error(got)
	}
	if got := Sum(list{{Lo: 5, Hi: 9, Val: 65535}}, list{{Lo: 0, Hi: 4, Val: 65535}}); !slices.Equal(got, list{{Lo: 0, Hi: 9, Val: 65535}}) {
		t.Error(got)
	}
	if got := Sum(list{{Lo: 0x10ffff, Hi: 0x10ffff, Val: 3}}); !slices.Equal(got, list{{Lo: 0x10ffff, Hi: 0x10ffff, Val: 3}}) {
		t.Error(got)
	}
}
