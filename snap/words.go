package snap

import (
	"strconv"
	"strings"

	"linotype/api"
	"linotype/cell"
)

// check holds each word against what it must be; one that is missing, or one too many, is wrong, too.
func check(words []string, must ...func(word string) bool) error {
	for i, ok := range must {
		if i >= len(words) || !ok(words[i]) {
			return wrongWord(i)
		}
	}
	if len(words) > len(must) {
		return wrongWord(len(must))
	}
	return nil
}

func is(want string) func(word string) bool {
	return func(word string) bool { return word == want }
}

// oneOf is one of two words; to says whether it is the first one.
func oneOf(to *bool, yes, no string) func(word string) bool {
	return func(word string) bool {
		*to = word == yes
		return *to || word == no
	}
}

func side(to *int) func(word string) bool {
	return func(word string) bool {
		n, ok := readNumber(word)
		*to = n
		return ok && isSide(n)
	}
}

// below is a number below another one, which is known when the word is looked at.
func below(to, high *int) func(word string) bool {
	return func(word string) bool {
		n, ok := readNumber(word)
		*to = n
		return ok && n < *high
	}
}

func readNumber(word string) (int, bool) {
	return digits(word, 10, 4)
}

// digits are a number without noughts ahead, of at most so many digits.
func digits(word string, base, most int) (int, bool) {
	if len(word) == 0 || len(word) > most || len(word) > 1 && word[0] == '0' {
		return 0, false
	}
	for i := range len(word) {
		if strings.IndexByte("0123456789abcdef"[:base], word[i]) < 0 {
			return 0, false
		}
	}
	n, err := strconv.ParseInt(word, base, 64)
	return int(n), err == nil
}

// readCell is the cell of a word: numbers that make no cell that may be are a wrong word, too.
func readCell(word string) (api.Cell, bool) {
	switch word {
	case blankWord:
		return api.Cell{Kind: api.Blank}, true
	case spacerWord:
		return api.Cell{Kind: api.Spacer}, true
	}
	c := api.Cell{Kind: api.One}
	if rest, ok := strings.CutPrefix(word, leadMark); ok {
		c.Kind, word = api.Lead, rest
	}
	for _, part := range strings.Split(word, between) {
		n, ok := digits(part, 16, 6)
		if !ok {
			return api.Cell{}, false
		}
		c.Text = append(c.Text, rune(n))
	}
	return c, cell.Right(c)
}
