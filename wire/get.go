package wire

import (
	"bytes"

	"linotype/api"
	"linotype/utfall"
)

// longest is how many bytes of what is no view's are looked at.
const longest = 1 << 24

// Get is the view with bytes.
func Get(b []byte) (api.View, error) {
	r := reader{rest: b}
	v := r.view()
	if r.ok() {
		// A view has one row of bytes alone: what was read in another way, such as a run in two pieces, is none.
		if again, err := Put(v); err == nil && bytes.Equal(again, b) {
			return v, nil
		}
	}
	if len(b) > longest {
		return api.View{}, api.ErrLong
	}
	return api.View{}, api.ErrForm
}

// A reader takes bytes from the front; once something is wrong it reads noughts.
type reader struct {
	rest []byte
	bad  bool
}

// ok: was all read, and nothing wrong?
func (r *reader) ok() bool {
	return !r.bad && len(r.rest) == 0
}

func (r *reader) take(n int) []byte {
	if r.bad || n > len(r.rest) {
		r.bad = true
		return nil
	}
	b := r.rest[:n]
	r.rest = r.rest[n:]
	return b
}

func (r *reader) one() byte {
	b := r.take(1)
	if len(b) == 0 {
		return 0
	}
	return b[0]
}

func (r *reader) number() int {
	n := 0
	for i := range numberBytes {
		b := r.one()
		n |= int(b%more) << (i * numberBits)
		if b < more {
			return n
		}
	}
	r.bad = true
	return 0
}

func (r *reader) view() api.View {
	var v api.View
	r.must(r.one() == mark)
	v.Wide, v.High = r.number(), r.number()
	v.At.Row, v.At.Col = r.number(), r.number()
	flags := r.one()
	v.At.Pending, v.Auto = flags&pendingFlag != 0, flags&autoFlag != 0
	r.must(v.Wide <= api.MaxSide && v.High <= api.MaxSide)
	for i := 0; i < v.High && !r.bad; i++ {
		wrap := r.one() == 1
		v.Lines = append(v.Lines, api.Line{Wrap: wrap, Cells: r.cells(v.Wide)})
	}
	return v
}

func (r *reader) must(is bool) {
	r.bad = r.bad || !is
}

// cells are a line's runs, up to its end.
func (r *reader) cells(wide int) []api.Cell {
	var cells []api.Cell
	for len(cells) < wide && !r.bad {
		run := r.number()
		n := run / 2
		r.must(n > 0 && n <= wide-len(cells))
		if r.bad {
			return nil
		}
		if run%2 == 0 {
			cells = append(cells, make([]api.Cell, n)...)
			continue
		}
		end := len(cells) + n
		for len(cells) < end && !r.bad {
			cells = append(cells, r.cluster()...)
		}
		r.must(len(cells) == end)
	}
	return cells
}

// cluster is the cells of one; whether they may be is looked at later.
func (r *reader) cluster() []api.Cell {
	n := r.number()
	forms := r.take(n / 2)
	r.must(utfall.Valid(forms))
	text := utfall.Runes(forms)
	if n%2 == 1 {
		return []api.Cell{{Kind: api.Lead, Text: text}, {Kind: api.Spacer}}
	}
	return []api.Cell{{Kind: api.One, Text: text}}
}
