package render

import (
	"math/rand"
	"reflect"
	"testing"

	"linotype/api"
	"linotype/cell"
	"linotype/clone"
	"linotype/screen"
)

func one(l ...rune) api.Cell  { return api.Cell{Kind: api.One, Text: l} }
func lead(l ...rune) api.Cell { return api.Cell{Kind: api.Lead, Text: l} }
func spacer() api.Cell        { return api.Cell{Kind: api.Spacer} }

func viewOf(l ...api.Cell) api.View {
	return api.View{Wide: len(l), High: 1, Lines: []api.Line{{Cells: l}}, Auto: true}
}

// 54.1: which clusters can be drawn.
func TestCan(t *testing.T) {
	for _, v := range []api.View{
		viewOf(api.Cell{}), viewOf(one(0x61)), viewOf(one(0x61, 0x301)), viewOf(lead(0x4e00), spacer()), viewOf(one(0xfffd)), viewOf(one(0x301)),
		viewOf(lead(0x2764, 0xfe0f), spacer()), viewOf(one(0x2764)), viewOf(one(0x200b)), viewOf(lead(0x1f468, 0x200d, 0x1f469), spacer()), viewOf(lead(0x1f1e9, 0x1f1ea), spacer()),
	} {
		if !Can(v) {
			t.Errorf("%v can't be drawn", v.Lines)
		}
	}
	for _, v := range []api.View{
		{}, viewOf(one()), viewOf(spacer()), viewOf(one(0x61, 0x62)), viewOf(one(0x4e00)), viewOf(lead(0x61), spacer()), viewOf(lead(0xfffd), spacer()), viewOf(one(0xa)), viewOf(one(0x61, 0x7f)), viewOf(one(0x9f)), viewOf(one(0xd, 0xa)),
		viewOf(one(0x2764, 0xfe0f)), viewOf(one(0xfffd, 0xfffd)), viewOf(lead(0x1f1e9, 0x1f1ea, 0x1f1e9), spacer()), viewOf(one(0xd800)),
		{Wide: 1, High: 1, Lines: []api.Line{{Cells: cell.Blanks(1)}}, At: api.Cursor{Col: 1}},
	} {
		ops, ok := Ops(v)
		if Can(v) || ok || len(ops) > 0 {
			t.Errorf("%v can be drawn", v.Lines)
		}
	}
}

// 54.2: the chapter's example.
func TestOps(t *testing.T) {
	v := viewOf(one(0x61), api.Cell{}, lead(0x4e00), spacer())
	v.At = api.Cursor{Col: 3, Pending: true}
	v.Lines[0].Wrap = true
	want := []api.Op{
		{Kind: api.Autowrap}, {Kind: api.Move}, {Kind: api.Feed, Bytes: []byte("a")}, {Kind: api.Move, B: 2}, {Kind: api.Feed, Bytes: []byte("\u4e00")},
		{Kind: api.Autowrap, A: 1}, {Kind: api.Move, B: 3},
	}
	if got, ok := Ops(v); !ok || !reflect.DeepEqual(got, want) {
		t.Error(got, ok)
	}
	v.Auto = false
	want = append(want[:5:5], want[6])
	if got, ok := Ops(v); !ok || !reflect.DeepEqual(got, want) {
		t.Error(got, ok)
	}
}

// 54.1: whatever view is bared.
func TestBare(t *testing.T) {
	v := api.View{Wide: -1, High: 7, Auto: true, At: api.Cursor{Row: -3, Col: 9, Pending: true}, Lines: []api.Line{{Wrap: true, Cells: []api.Cell{one(-1), {Kind: 9}}}, {Wrap: true}}}
	before := clone.View(v)
	got := Bare(v)
	want := clone.View(v)
	want.At.Pending, want.Lines[0].Wrap, want.Lines[1].Wrap = false, false, false
	if !reflect.DeepEqual(got, want) || !reflect.DeepEqual(v, before) {
		t.Error(got, v)
	}
	got.Lines[0].Cells[0].Text[0] = 7
	if v.Lines[0].Cells[0].Text[0] != -1 {
		t.Error("a view shares memory with another one")
	}
}

// 54.3, W6: what screens show is drawn on a new screen.
func TestScreens(t *testing.T) {
	kinds := []string{"a", "b\u0301", "\u4e00", "\u2764", "\ufe0f", "\u0301", "\n", "\r", "\U0001f468\u200d\U0001f469", "\U0001f1e9", "\u0600", "\u200b", "\u0915\u094d\u0915", "\xff", "\uac00", "\u1161"}
	rnd := rand.New(rand.NewSource(54))
	drawn := 0
	for range 3000 {
		s := screen.New(1+rnd.Intn(5), 1+rnd.Intn(3))
		for range rnd.Intn(12) {
			o := api.Op{Bytes: []byte(kinds[rnd.Intn(len(kinds))])}
			if rnd.Intn(5) == 0 {
				o = api.Op{Kind: 2 + rnd.Intn(11), A: rnd.Intn(4), B: rnd.Intn(4)}
			}
			_ = s.Do(o)
		}
		v := s.View()
		ops, ok := Ops(v)
		if ok != Can(v) {
			t.Fatal(v)
		}
		if !ok {
			continue
		}
		drawn++
		clusters := 0
		for _, l := range v.Lines {
			for _, c := range l.Cells {
				if len(c.Text) > 0 {
					clusters++
				}
			}
		}
		again := screen.New(v.Wide, v.High)
		if err := again.Run(ops...); err != nil || !reflect.DeepEqual(again.View(), Bare(v)) || len(ops) > 3+2*clusters {
			t.Fatalf("%v is drawn as %v: %v", v, again.View(), err)
		}
	}
	if drawn < 2900 {
		t.Errorf("only %d views were drawn", drawn)
	}
}
