// Package clone copies cells, lines and views with all that lies behind them, so that what is kept and what is handed out share no memory.
package clone

import (
	"slices"

	"linotype/api"
)

// Cell is a cell with numbers of its own.
func Cell(c api.Cell) api.Cell {
	c.Text = slices.Clone(c.Text)
	return c
}

// Cells are cells with numbers of their own.
func Cells(l []api.Cell) []api.Cell {
	l = slices.Clone(l)
	for i, c := range l {
		l[i] = Cell(c)
	}
	return l
}

// Line is a line with cells of its own.
func Line(l api.Line) api.Line {
	l.Cells = Cells(l.Cells)
	return l
}

// View is a view with lines of its own.
func View(v api.View) api.View {
	v.Lines = slices.Clone(v.Lines)
	for i, l := range v.Lines {
		v.Lines[i] = Line(l)
	}
	return v
}
