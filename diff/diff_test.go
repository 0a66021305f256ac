package diff

import (
	"math"
	"math/rand"
	"reflect"
	"slices"
	"testing"

	"linotype/api"
	"linotype/cell"
	"linotype/clone"
	"linotype/screen"
	"linotype/snap"
)

func blank() api.Cell         { return api.Cell{} }
func spacer() api.Cell        { return api.Cell{Kind: api.Spacer} }
func one(l ...rune) api.Cell  { return api.Cell{Kind: api.One, Text: l} }
func lead(l ...rune) api.Cell { return api.Cell{Kind: api.Lead, Text: l} }

// viewOf is a view of one line a strip.
func viewOf(strips ...[]api.Cell) api.View {
	v := api.View{Wide: len(strips[0]), High: len(strips), Auto: true}
	for _, l := range strips {
		v.Lines = append(v.Lines, api.Line{Cells: l})
	}
	return v
}

func letters(s string) []api.Cell {
	var l []api.Cell
	for _, r := range s {
		if r == '.' {
			l = append(l, blank())
			continue
		}
		l = append(l, one(r))
	}
	return l
}

func same(a, b api.View) bool { return snap.Tell(a) == snap.Tell(b) && snap.Tell(a) != "" }

// 46.1: the chapter's example.
func TestExample(t *testing.T) {
	p, ok := Of(viewOf(letters("abc")), viewOf(letters("axy")))
	if !ok || len(p.Changes) != 1 || p.Changes[0].Row != 0 || p.Changes[0].Col != 1 || !cell.Same(p.Changes[0].Cells, letters("xy")) || len(p.Wraps) > 0 || p.Whole || !p.Auto || Count(p) != 2 {
		t.Error(p, ok)
	}
}

// 46.1: changes by row and column, wraps, cursor, Auto.
func TestOf(t *testing.T) {
	a, b := viewOf(letters("abcd"), letters("...."), letters("abcd")), viewOf(letters("xbyy"), letters("...."), letters("ab.z"))
	a.Lines[0].Wrap, b.Lines[1].Wrap, b.Lines[2].Wrap = true, true, true
	b.At, b.Auto = api.Cursor{Row: 2, Col: 3, Pending: true}, false
	p, ok := Of(a, b)
	want := []Change{{0, 0, letters("x")}, {0, 2, letters("yy")}, {2, 2, letters(".z")}}
	if !ok || !slices.EqualFunc(p.Changes, want, func(x, y Change) bool { return x.Row == y.Row && x.Col == y.Col && cell.Same(x.Cells, y.Cells) }) {
		t.Error(p.Changes)
	}
	if !slices.Equal(p.Wraps, []int{0, 1, 2}) || p.At != b.At || p.Auto || p.Whole || !reflect.DeepEqual(p.View, api.View{}) || Count(p) != 5 {
		t.Error(p)
	}
	p.Changes[0].Cells[0].Text[0] = 0x7a
	if b.Lines[0].Cells[0].Text[0] != 'x' {
		t.Error("a patch shares memory with a view")
	}
}

// 46.1: unlike sides.
func TestWhole(t *testing.T) {
	a, b := viewOf(letters("ab")), viewOf(letters("a"), letters("b"))
	b.At = api.Cursor{Row: 1}
	p, ok := Of(a, b)
	if !ok || !p.Whole || !same(p.View, b) || len(p.Changes) > 0 || len(p.Wraps) > 0 || p.At != (api.Cursor{}) || p.Auto || Count(p) != 2 {
		t.Error(p)
	}
	got, ok := Apply(a, p)
	if !ok || !same(got, b) {
		t.Error(got, ok)
	}
	got.Lines[0].Cells[0].Text[0] = 0x7a
	p.View.Lines[1].Cells[0].Text[0] = 0x79
	if b.Lines[0].Cells[0].Text[0] != 'a' || b.Lines[1].Cells[0].Text[0] != 'b' || p.View.Lines[0].Cells[0].Text[0] != 'a' {
		t.Error("views share memory")
	}
	if p, ok = Of(a, viewOf(letters("abc"))); !ok || !p.Whole {
		t.Error(p)
	}
}

// 46.1, 46.2: views that are not right.
func TestNotRight(t *testing.T) {
	good, bad := viewOf(letters("ab")), viewOf([]api.Cell{lead(0x61), blank()})
	for _, x := range [][2]api.View{{good, bad}, {bad, good}, {bad, bad}, {api.View{}, good}, {good, api.View{}}} {
		if p, ok := Of(x[0], x[1]); ok || !reflect.DeepEqual(p, Patch{}) {
			t.Errorf("%v: %v", x, p)
		}
	}
	for _, x := range []struct {
		v api.View
		p Patch
	}{
		{bad, Patch{}}, {bad, Patch{Whole: true, View: good}}, {good, Patch{Whole: true, View: bad}}, {good, Patch{Whole: true}}, {api.View{}, Patch{Whole: true, View: good}},
		{good, Patch{Changes: []Change{{0, 0, []api.Cell{spacer()}}}}},
		{good, Patch{Changes: []Change{{0, 1, []api.Cell{lead(0x61)}}}}},
		{good, Patch{Changes: []Change{{0, 1, []api.Cell{one()}}}}},
		{good, Patch{At: api.Cursor{Row: 1}}}, {good, Patch{At: api.Cursor{Pending: true}}}, {good, Patch{At: api.Cursor{Col: -1}}},
	} {
		if got, ok := Apply(x.v, x.p); ok || !reflect.DeepEqual(got, api.View{}) {
			t.Errorf("%v with %v: %v", x.v, x.p, got)
		}
	}
}

// 46.2: what lies outside.
func TestOutside(t *testing.T) {
	v := viewOf(letters("ab"), letters("cd"))
	for _, p := range []Patch{
		{Changes: []Change{{2, 0, nil}}}, {Changes: []Change{{-1, 0, nil}}}, {Changes: []Change{{0, 2, nil}}}, {Changes: []Change{{0, -1, nil}}},
		{Changes: []Change{{math.MaxInt, math.MinInt, letters("a")}}}, {Changes: []Change{{0, math.MaxInt, letters("a")}}},
		{Changes: []Change{{0, 1, letters("xy")}}}, {Changes: []Change{{1, 0, letters("xyz")}}}, {Changes: []Change{{0, 0, letters("x")}, {9, 0, nil}}},
		{Wraps: []int{2}}, {Wraps: []int{-1}}, {Wraps: []int{0, math.MaxInt}},
	} {
		if got, ok := Apply(v, p); ok || !reflect.DeepEqual(got, api.View{}) {
			t.Errorf("%v: %v", p, got)
		}
	}
	if got, ok := Apply(v, Patch{Changes: []Change{{1, 1, nil}, {0, 0, letters("xy")}, {0, 1, letters("z")}}, Wraps: []int{0, 1, 0}}); !ok || string(cell.Text(got.Lines[0].Cells...)) != "xz" || got.Lines[0].Wrap || !got.Lines[1].Wrap || got.Auto {
		t.Error(got, ok)
	}
	// halves of a cluster may come in two changes
	if got, ok := Apply(v, Patch{Changes: []Change{{0, 0, []api.Cell{lead(0x61)}}, {0, 1, []api.Cell{spacer()}}}}); !ok || got.Lines[0].Cells[0].Kind != api.Lead {
		t.Error(got, ok)
	}
}

// 46.2: how many cells, whatever the patch.
func TestCount(t *testing.T) {
	odd := api.View{Lines: []api.Line{{Cells: letters("ab")}, {}, {Cells: letters("c")}}}
	if Count(Patch{Whole: true, View: odd, Changes: []Change{{0, 0, letters("abcd")}}}) != 3 || Count(Patch{View: odd, Changes: []Change{{-1, 0, letters("abcd")}, {0, 0, nil}}}) != 4 || Count(Patch{}) != 0 {
		t.Error("cells are counted wrong")
	}
}

func someView(rnd *rand.Rand, s *screen.Screen) api.View {
	kinds := []string{"a", "b\u0301", "\u4e00", "\u2764\ufe0f", "\n", "\r", "ab"}
	for range rnd.Intn(5) {
		_ = s.Do(api.Op{Bytes: []byte(kinds[rnd.Intn(len(kinds))])})
	}
	_ = s.Do(api.Op{Kind: 1 + rnd.Intn(12), A: rnd.Intn(4) - 1, B: rnd.Intn(4)})
	if rnd.Intn(10) == 0 {
		_ = s.Do(api.Op{Kind: api.Resize, A: 1 + rnd.Intn(5), B: 1 + rnd.Intn(3)})
	}
	return s.View()
}

// 46.3: the patch from a to b, applied to a, is b; no more cells change than differ.
func TestAny(t *testing.T) {
	rnd := rand.New(rand.NewSource(46))
	s := screen.New(4, 3)
	a := s.View()
	for range 3000 {
		b := someView(rnd, s)
		before := clone.View(a)
		p, ok := Of(a, b)
		got, applied := Apply(a, p)
		if !ok || !applied || !same(got, b) || !reflect.DeepEqual(a, before) {
			t.Fatalf("%v to %v by %v: %v", a, b, p, got)
		}
		if !p.Whole {
			differ := 0
			for i, l := range a.Lines {
				for col, c := range l.Cells {
					if !reflect.DeepEqual(c, b.Lines[i].Cells[col]) {
						differ++
					}
				}
			}
			if Count(p) != differ {
				t.Fatalf("%v to %v: %d cells, %d differ", a, b, Count(p), differ)
			}
		}
		if p, ok = Of(b, b); !ok || len(p.Changes) > 0 || len(p.Wraps) > 0 || p.Whole || p.At != b.At {
			t.Fatalf("%v to itself: %v", b, p)
		}
		a = b
	}
}
