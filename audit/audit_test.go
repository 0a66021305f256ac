package audit

import (
	"math"
	"math/rand"
	"slices"
	"testing"

	"linotype/api"
	"linotype/snap"
)

func blank() api.Cell         { return api.Cell{} }
func spacer() api.Cell        { return api.Cell{Kind: api.Spacer} }
func one(l ...rune) api.Cell  { return api.Cell{Kind: api.One, Text: l} }
func lead(l ...rune) api.Cell { return api.Cell{Kind: api.Lead, Text: l} }

func line(l ...api.Cell) api.Line { return api.Line{Cells: l} }

// A mistake is an error's code, and its places.
type mistake struct{ code, at, within int }

func mistakes(l []error) []mistake {
	var all []mistake
	for _, err := range l {
		all = append(all, mistake{api.Code(err), api.At(err), api.Within(err)})
	}
	return all
}

// 47.1: what is wrong, in order.
func TestLook(t *testing.T) {
	bad := api.Cell{Kind: api.Spacer, Text: []rune{0x20}}
	for _, x := range []struct {
		name string
		v    api.View
		want []mistake
	}{
		{"nothing", api.View{Wide: 2, High: 1, Lines: []api.Line{line(lead(0x61), spacer())}}, nil},
		{"the greatest sides", api.View{Wide: 1024, High: 1024, Lines: slices.Repeat([]api.Line{line(make([]api.Cell, 1024)...)}, 1024)}, nil},
		{"the chapter's example", api.View{Wide: 1, High: 1, Lines: []api.Line{line(spacer())}}, []mistake{{2, 0, 0}}},
		{"the zero view", api.View{}, []mistake{{3, -1, -1}}},
		{"more lines than rows", api.View{Wide: 1, High: 1, Lines: []api.Line{line(blank()), line(blank())}}, []mistake{{3, -1, -1}}},
		{"too wide", api.View{Wide: 1025, High: 1, Lines: []api.Line{line(make([]api.Cell, 1025)...)}}, []mistake{{3, -1, -1}}},
		{"too high", api.View{Wide: 1, High: 1025, Lines: slices.Repeat([]api.Line{line(blank())}, 1025)}, []mistake{{3, -1, -1}}},
		{"lengths", api.View{Wide: 2, High: 3, Lines: []api.Line{line(), line(blank(), blank()), line(blank(), blank(), one())}}, []mistake{{4, 0, -1}, {4, 2, -1}, {5, 2, 2}}},
		{"cells", api.View{Wide: 4, High: 2, Lines: []api.Line{
			line(lead(0x61), one(-1), spacer(), one(0x61)),
			line(lead(0x61), bad, spacer(), lead(0x61)),
		}}, []mistake{{2, 0, 0}, {5, 0, 1}, {2, 0, 2}, {5, 1, 1}, {2, 1, 2}, {2, 1, 3}}},
		{"a Lead that may not be", api.View{Wide: 2, High: 1, Lines: []api.Line{line(lead(), spacer())}}, []mistake{{5, 0, 0}}},
		{"kinds", api.View{Wide: 2, High: 1, Lines: []api.Line{line(api.Cell{Kind: -1}, api.Cell{Kind: 4, Text: []rune{0x61}})}}, []mistake{{5, 0, 0}, {5, 0, 1}}},
		{"the cursor", api.View{Wide: 1, High: 1, Lines: []api.Line{line(blank())}, At: api.Cursor{Col: 1}}, []mistake{{8, -1, -1}}},
		{"a pending wrap", api.View{Wide: 2, High: 1, Lines: []api.Line{line(blank(), blank())}, At: api.Cursor{Pending: true}}, []mistake{{8, -1, -1}}},
		{"all at once", api.View{Wide: -1, High: math.MaxInt, Lines: []api.Line{line(spacer())}, At: api.Cursor{Row: -1}}, []mistake{{3, -1, -1}, {4, 0, -1}, {2, 0, 0}, {8, -1, -1}}},
	} {
		if got := mistakes(Look(x.v)); !slices.Equal(got, x.want) {
			t.Errorf("%s: %v", x.name, got)
		}
		first := First(x.v)
		if Sound(x.v) != (len(x.want) == 0) || first != nil != (len(x.want) > 0) || first != nil && mistakes([]error{first})[0] != x.want[0] {
			t.Errorf("%s: %v", x.name, first)
		}
	}
}

// 47.2: a view is sound just if it is right.
func TestRight(t *testing.T) {
	rnd := rand.New(rand.NewSource(47))
	cells := []api.Cell{blank(), blank(), one(0x61), lead(0x61), spacer(), spacer(), one(), {Kind: 5}}
	right := 0
	for range 30000 {
		v := api.View{Wide: rnd.Intn(4), High: rnd.Intn(3), At: api.Cursor{Row: rnd.Intn(3) - 1, Col: rnd.Intn(4) - 1, Pending: rnd.Intn(4) == 0}}
		high := v.High
		if rnd.Intn(8) == 0 {
			high = rnd.Intn(3)
		}
		for range high {
			var l []api.Cell
			wide := v.Wide
			if rnd.Intn(8) == 0 {
				wide = rnd.Intn(4)
			}
			for range wide {
				l = append(l, cells[rnd.Intn(len(cells)-rnd.Intn(3))])
			}
			v.Lines = append(v.Lines, line(l...))
		}
		if Sound(v) != snap.Right(v) || Sound(v) != (len(Look(v)) == 0) {
			t.Fatalf("%v: %v, but right: %v", v, Look(v), snap.Right(v))
		}
		if Sound(v) {
			right++
		}
	}
	if right < 100 {
		t.Errorf("only %d views are right", right)
	}
}
