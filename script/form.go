package script

import "linotype/api"

// The words that stand in scripts' texts for themselves.
const (
	sizeWord  = "size"
	onWord    = "on"
	offWord   = "off"
	noBytes   = "-"
	hexDigits = "0123456789abcdef"
)

// What stands in a line behind its words.
const (
	noArgs = iota
	bytesArg
	switchArg
	oneArg
	twoArgs
)

// A form is how the line of an operation looks.
type form struct {
	kind  int
	words []string
	args  int
}

func forms() []form {
	return []form{
		{api.Feed, []string{"feed"}, bytesArg},
		{api.Flush, []string{"flush"}, noArgs},
		{api.Move, []string{"move"}, twoArgs},
		{api.EraseLine, []string{"erase", "line"}, oneArg},
		{api.EraseScreen, []string{"erase", "screen"}, oneArg},
		{api.EraseCells, []string{"erase", "cells"}, oneArg},
		{api.InsertCells, []string{"insert", "cells"}, oneArg},
		{api.InsertLines, []string{"insert", "lines"}, oneArg},
		{api.DeleteCells, []string{"delete", "cells"}, oneArg},
		{api.DeleteLines, []string{"delete", "lines"}, oneArg},
		{api.ScrollUp, []string{"scroll", "up"}, oneArg},
		{api.ScrollDown, []string{"scroll", "down"}, oneArg},
		{api.Autowrap, []string{"wrap"}, switchArg},
		{api.Resize, []string{"resize"}, twoArgs},
	}
}

func formOf(kind int) (form, bool) {
	for _, f := range forms() {
		if f.kind == kind {
			return f, true
		}
	}
	return form{}, false
}

// fits: is all of an operation as its line can tell it?
func (f form) fits(o api.Op) bool {
	if f.args != bytesArg && len(o.Bytes) > 0 || f.args != twoArgs && o.B != 0 {
		return false
	}
	switch f.args {
	case noArgs, bytesArg:
		return o.A == 0
	case switchArg:
		return o.A == 0 || o.A == 1
	}
	return isNumber(o.A) && isNumber(o.B)
}
