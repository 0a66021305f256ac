// Package scalar is layer 1: scalar values as bytes. See shared/doc/01-scalar.md.
package scalar

import "linotype/api"

// What of numbers below api.MaxRune is no scalar value.
const (
	gapLo = 0xd800
	gapHi = 0xdfff
)

// Below which number a form has one, two and three bytes.
const (
	oneEnd   = 0x80
	twoEnd   = 0x800
	threeEnd = 0x10000
)

// What the bytes of longer forms have beside the bits of their number.
const (
	leadTwo   = 0xc0
	leadThree = 0xe0
	leadFour  = 0xf0
	further   = 0x80
)

// Valid: is a number a scalar value?
func Valid(r rune) bool {
	return r >= 0 && r <= api.MaxRune && (r < gapLo || r > gapHi)
}

// Size is how many bytes a form has.
func Size(r rune) int {
	switch {
	case !Valid(r):
		return 0
	case r < oneEnd:
		return 1
	case r < twoEnd:
		return 2
	case r < threeEnd:
		return 3
	}
	return 4
}

// Form is a scalar value's bytes.
func Form(r rune) []byte {
	return appendForm(nil, r)
}

// Put is the bytes of scalar values.
func Put(l ...rune) ([]byte, error) {
	for i, r := range l {
		if !Valid(r) {
			return nil, api.Wrong(i, api.ErrScalar)
		}
	}
	var forms []byte
	for _, r := range l {
		forms = appendForm(forms, r)
	}
	return forms, nil
}

// Replace is scalar values, with others replaced.
func Replace(l ...rune) []rune {
	out := make([]rune, len(l))
	for i, r := range l {
		if !Valid(r) {
			r = api.Bad
		}
		out[i] = r
	}
	return out
}

func appendForm(b []byte, r rune) []byte {
	switch Size(r) {
	case 1:
		return append(b, byte(r))
	case 2:
		return append(b, leadTwo|byte(r>>6), sixBits(r))
	case 3:
		return append(b, leadThree|byte(r>>12), sixBits(r>>6), sixBits(r))
	case 4:
		return append(b, leadFour|byte(r>>18), sixBits(r>>12), sixBits(r>>6), sixBits(r))
	}
	return b
}

func sixBits(r rune) byte {
	return further | byte(r&0x3f)
}
