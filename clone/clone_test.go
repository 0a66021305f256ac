package clone

import (
	"reflect"
	"testing"

	"linotype/api"
)

func view() api.View {
	return api.View{
		Wide: 2, High: 1, At: api.Cursor{Col: 1, Pending: true}, Auto: true,
		Lines: []api.Line{{Wrap: true, Cells: []api.Cell{{Kind: api.One, Text: []rune{0x61}}, {Kind: 9, Text: []rune{-1}}}}},
	}
}

func TestView(t *testing.T) {
	v := view()
	c := View(v)
	if !reflect.DeepEqual(v, c) {
		t.Errorf("%v", c)
	}
	c.Lines[0].Cells[1].Text[0] = 7
	c.Lines[0].Cells[0] = api.Cell{}
	c.Lines[0].Wrap = false
	if !reflect.DeepEqual(v, view()) {
		t.Errorf("what was copied became %v", v)
	}
}

func TestNothing(t *testing.T) {
	if c := View(api.View{}); len(c.Lines) > 0 {
		t.Error(c)
	}
	if c := Line(api.Line{}); len(c.Cells) > 0 {
		t.Error(c)
	}
	if c := Cell(api.Cell{}); len(c.Text) > 0 {
		t.Error(c)
	}
}
