package snap

import (
	"errors"
	"strconv"
	"strings"

	"linotype/api"
	"linotype/cell"
)

// longest is how many bytes of what is no view's text are looked at.
const longest = 1 << 20

// Read is the view with a text.
func Read(s string) (api.View, error) {
	r := reader{rest: s}
	v, err := r.view()
	switch {
	case err == nil:
		return v, nil
	case len(s) > longest:
		return api.View{}, api.ErrLong
	}
	return api.View{}, fault(r.line, err)
}

// wrongWord is what is wrong with a line: the number of its first word that is not as it must be.
type wrongWord int

// Error tells what is wrong.
func (w wrongWord) Error() string { return api.ErrWord.Error() + " " + strconv.Itoa(int(w)) }

// Unwrap is the error that it is.
func (w wrongWord) Unwrap() error { return api.ErrWord }

// fault tells what is wrong with a line as others are told it.
func fault(line int, err error) error {
	var w wrongWord
	switch {
	case errors.As(err, &w):
		return api.Wrong(line, api.Wrong(int(w), api.ErrWord))
	case errors.Is(err, api.ErrKind):
		return api.Wrong(line, api.ErrKind)
	}
	return api.Wrong(line, api.ErrForm)
}

// A reader reads line by line; line is the number of the one that is read.
type reader struct {
	rest string
	line int
}

func (r *reader) view() (api.View, error) {
	var v api.View
	head := []func(words []string) error{
		func(words []string) error { return check(words, is(screenWord), side(&v.Wide), side(&v.High)) },
		func(words []string) error { return readCursor(words, &v) },
		func(words []string) error { return check(words, is(autoWord), oneOf(&v.Auto, onWord, offWord)) },
	}
	for _, read := range head {
		if err := r.next(read); err != nil {
			return v, err
		}
	}
	for range v.High {
		err := r.next(func(words []string) error { return readCells(words, &v) })
		if err != nil {
			return v, err
		}
	}
	if r.rest != "" {
		return v, api.ErrForm
	}
	return v, nil
}

// next reads one more line; what is wrong leaves it the one that is read.
func (r *reader) next(read func(words []string) error) error {
	line, rest, ends := strings.Cut(r.rest, "\n")
	if !ends {
		return api.ErrForm
	}
	if err := read(strings.Split(line, " ")); err != nil {
		return err
	}
	r.rest = rest
	r.line++
	return nil
}

func readCursor(words []string, v *api.View) error {
	row, col := below(&v.At.Row, &v.High), below(&v.At.Col, &v.Wide)
	if len(words) < 4 {
		return check(words, is(atWord), row, col)
	}
	v.At.Pending = true
	return check(words, is(atWord), row, col, func(word string) bool {
		return word == pendingWord && v.At.Col == v.Wide-1
	})
}

func readCells(words []string, v *api.View) error {
	var wrap bool
	if err := check(words[:1], oneOf(&wrap, wrapWord, noWrapWord)); err != nil {
		return err
	}
	var cells []api.Cell
	for i, word := range words[1:] {
		c, ok := readCell(word)
		if !ok || i >= v.Wide {
			return wrongWord(i + 1)
		}
		cells = append(cells, c)
	}
	if len(cells) < v.Wide {
		return wrongWord(len(words))
	}
	if !cell.Sound(cells...) {
		return api.ErrKind
	}
	v.Lines = append(v.Lines, api.Line{Cells: cells, Wrap: wrap})
	return nil
}
