package widen

import (
	"math/rand"
	"slices"
	"testing"

	"linotype/api"
	"linotype/cell"
	"linotype/cwidth"
	"linotype/place"
	"linotype/ucd"
)

func at(row, col int) api.Cursor { return api.Cursor{Row: row, Col: col} }

// somePen is a pen on a grid that is full of all sorts of cells, wherever its cursor is.
func somePen(rnd *rand.Rand) *place.Pen {
	p := place.New(1+rnd.Intn(5), 1+rnd.Intn(3))
	for range rnd.Intn(12) {
		p.Put(1+rnd.Intn(2), rune(0x61+rnd.Intn(26)))
	}
	for i := range p.G.High() {
		p.G.Row(i).GoOn(rnd.Intn(2) == 0)
	}
	if rnd.Intn(3) > 0 {
		p.At = api.Cursor{Row: rnd.Intn(4), Col: rnd.Intn(6), Pending: rnd.Intn(2) == 0}
	}
	p.Auto = rnd.Intn(3) > 0
	return p
}

func copied(p *place.Pen) *place.Pen {
	return &place.Pen{G: p.G.Copy(), At: p.At, Auto: p.Auto}
}

func same(a, b *place.Pen) bool {
	return a.At == b.At && a.Auto == b.Auto && slices.EqualFunc(a.G.Lines(), b.G.Lines(), func(x, y api.Line) bool {
		return x.Wrap == y.Wrap && cell.Same(x.Cells, y.Cells)
	})
}

// 35.2: the chapter's example.
func TestExample(t *testing.T) {
	p := place.New(3, 2)
	p.At = at(0, 2)
	c := Begin(p, 0x2764, ucd.Of(0x2764))
	if c.At() != at(0, 2) || c.Wide() != 1 || p.At != (api.Cursor{Col: 2, Pending: true}) {
		t.Error(c.At(), c.Wide(), p.At)
	}
	if !c.Join(p, 0xfe0f, ucd.Of(0xfe0f)) || c.At() != at(1, 0) || c.Wide() != 2 || p.At != at(1, 2) || !slices.Equal(c.Text(), []rune{0x2764, 0xfe0f}) {
		t.Error(c.At(), c.Wide(), p.At, c.Text())
	}
	l := p.G.Lines()
	if !l[0].Wrap || !cell.Same(l[0].Cells, cell.Blanks(3)) || !cell.Same(l[1].Cells, append(cell.Of(2, 0x2764, 0xfe0f), api.Cell{})) {
		t.Error(l)
	}
}

// 35.1: what is put when a cluster is begun.
func TestBegin(t *testing.T) {
	p := place.New(3, 1)
	c := Begin(p, 0x4e00, ucd.Of(0x4e00))
	if c.Wide() != 2 || c.At() != at(0, 0) || p.At != at(0, 2) || !slices.Equal(c.Text(), []rune{0x4e00}) {
		t.Error(c.Wide(), c.At(), p.At)
	}
	p = place.New(3, 1)
	if c = Begin(p, -1, api.Prop{East: api.Full}); c.Wide() != 2 || !slices.Equal(c.Text(), []rune{0xfffd}) {
		t.Error(c.Wide(), c.Text())
	}
	if !c.Join(p, 0xd800, api.Prop{}) || !slices.Equal(c.Text(), []rune{0xfffd, 0xfffd}) {
		t.Error(c.Text())
	}
	c.Text()[0] = 0x61
	if x, _ := p.G.Row(0).Cell(0); !slices.Equal(x.Text, []rune{0xfffd, 0xfffd}) || c.Text()[0] != 0xfffd {
		t.Errorf("%x", x.Text)
	}
}

// 35.1, 35.2: what is nil.
func TestNil(t *testing.T) {
	if Begin(nil, 0x61, api.Prop{}) != nil || Begin(&place.Pen{}, 0x61, api.Prop{}) != nil {
		t.Error("a cluster is begun on nothing")
	}
	var none *Cluster
	p := place.New(2, 1)
	if none.Join(p, 0x61, api.Prop{}) || none.At() != at(0, 0) || none.Wide() != 0 || len(none.Text()) > 0 || !same(p, place.New(2, 1)) {
		t.Error("a nil cluster has something")
	}
	c := Begin(p, 0x61, api.Prop{})
	if c.Join(nil, 0x301, api.Prop{}) || c.Join(&place.Pen{}, 0x301, api.Prop{}) || len(c.Text()) != 1 {
		t.Error("a cluster grows on nothing")
	}
}

// 35.2: at most sixteen numbers.
func TestFull(t *testing.T) {
	p := place.New(2, 1)
	c := Begin(p, 0x2764, ucd.Of(0x2764))
	for range 15 {
		if !c.Join(p, 0x301, ucd.Of(0x301)) {
			t.Fatal("it is full too early")
		}
	}
	before := copied(p)
	if c.Join(p, 0x1f468, ucd.Of(0x1f468)) || !same(p, before) || c.Wide() != 1 || len(c.Text()) != 16 {
		t.Error("it grows beyond sixteen numbers")
	}
}

// 35.2, 35.3: number by number as at once.
func TestAny(t *testing.T) {
	kinds := []rune{0x61, 0x301, 0x2764, 0xfe0f, 0x4e00, 0x1f1e9, 0x1f468, -1}
	rnd := rand.New(rand.NewSource(35))
	for range 20000 {
		p := somePen(rnd)
		before := copied(p)
		var text []rune
		var c *Cluster
		for n := range 1 + rnd.Intn(4) {
			r := kinds[rnd.Intn(len(kinds))]
			x := ucd.Of(r)
			text = append(text, r)
			if n == 0 {
				c = Begin(p, r, x)
			} else if !c.Join(p, r, x) {
				t.Fatal("it does not join")
			}
			once := copied(before)
			put := once.Put(cwidth.Of(text...), text...)
			if !same(p, once) || c.At() != put || c.Wide() != cwidth.Of(text...) {
				t.Fatalf("%x on %v at %v: %v at %v, at once %v at %v", text, before.G.Lines(), before.At, p.G.Lines(), p.At, once.G.Lines(), once.At)
			}
		}
	}
}
