package script

import (
	"strconv"
	"strings"

	"linotype/api"
)

// Parse is the operation of a line.
func Parse(line string) (api.Op, error) {
	words := strings.Split(line, " ")
	f, known := formFor(words)
	if known == 0 {
		return api.Op{}, wrong(0)
	}
	if known < len(f.words) {
		return api.Op{}, wrong(known)
	}
	o := api.Op{Kind: f.kind}
	if err := check(words, known, readArgs(f.args, &o)); err != nil {
		return api.Op{}, err
	}
	return o, nil
}

// Read is the script of a text.
func Read(text string) (Script, error) {
	if len(text) > api.MaxScript {
		return Script{}, api.ErrLong
	}
	var s Script
	for n := 0; n == 0 || text != ""; n++ {
		line, rest, ends := strings.Cut(text, "\n")
		if !ends {
			return Script{}, api.Wrong(n, api.ErrForm)
		}
		if err := s.take(n, line); err != nil {
			return Script{}, api.Wrong(n, err)
		}
		text = rest
	}
	return s, nil
}

// take reads one more line.
func (s *Script) take(n int, line string) error {
	if n > 0 {
		o, err := Parse(line)
		s.Ops = append(s.Ops, o)
		return err
	}
	words := strings.Split(line, " ")
	if words[0] != sizeWord {
		return wrong(0)
	}
	var o api.Op
	err := check(words, 1, readArgs(twoArgs, &o))
	s.W, s.H = o.A, o.B
	return err
}

// formFor is the form that goes furthest with the first words, and how far it does.
func formFor(words []string) (form, int) {
	var best form
	most := 0
	for _, f := range forms() {
		n := 0
		for n < len(f.words) && n < len(words) && f.words[n] == words[n] {
			n++
		}
		if n > most {
			best, most = f, n
		}
	}
	return best, most
}

// readArgs tells how the words behind a form's are read into an operation.
func readArgs(args int, o *api.Op) []func(word string) bool {
	switch args {
	case bytesArg:
		return []func(string) bool{func(word string) bool { return readBytes(word, &o.Bytes) }}
	case switchArg:
		return []func(string) bool{func(word string) bool { return readSwitch(word, &o.A) }}
	case oneArg:
		return []func(string) bool{func(word string) bool { return readNumber(word, &o.A) }}
	case twoArgs:
		return []func(string) bool{
			func(word string) bool { return readNumber(word, &o.A) },
			func(word string) bool { return readNumber(word, &o.B) },
		}
	}
	return nil
}

// check reads the words from a number on: it is the fault of the first one that is wrong, missing, or one too many.
func check(words []string, from int, read []func(word string) bool) error {
	for i, ok := range read {
		if from+i >= len(words) || !ok(words[from+i]) {
			return wrong(from + i)
		}
	}
	if end := from + len(read); len(words) > end {
		return wrong(end)
	}
	return nil
}

func wrong(word int) error {
	return api.Wrong(word, api.ErrWord)
}

func readNumber(word string, to *int) bool {
	digits, below := strings.CutPrefix(word, "-")
	if len(digits) == 0 || len(digits) > 9 || digits[0] == '0' && (len(digits) > 1 || below) {
		return false
	}
	for i := range len(digits) {
		if digits[i] < '0' || digits[i] > '9' {
			return false
		}
	}
	n, err := strconv.Atoi(word)
	*to = n
	return err == nil
}

func readSwitch(word string, to *int) bool {
	if word == onWord {
		*to = 1
	}
	return word == onWord || word == offWord
}

func readBytes(word string, to *[]byte) bool {
	if word == noBytes {
		return true
	}
	if len(word) == 0 || len(word)%2 > 0 {
		return false
	}
	b := make([]byte, 0, len(word)/2)
	for i := 0; i < len(word); i += 2 {
		hi, lo := strings.IndexByte(hexDigits, word[i]), strings.IndexByte(hexDigits, word[i+1])
		if hi < 0 || lo < 0 {
			return false
		}
		b = append(b, byte(hi<<4|lo))
	}
	*to = b
	return true
}
