package snap

import (
	"strconv"
	"strings"

	"linotype/api"
)

// Tell is a view's text.
func Tell(v api.View) string {
	if !Right(v) {
		return ""
	}
	var b strings.Builder
	tellLine(&b, screenWord, strconv.Itoa(v.Wide), strconv.Itoa(v.High))
	at := []string{atWord, strconv.Itoa(v.At.Row), strconv.Itoa(v.At.Col)}
	if v.At.Pending {
		at = append(at, pendingWord)
	}
	tellLine(&b, at...)
	tellLine(&b, autoWord, either(v.Auto, onWord, offWord))
	for _, l := range v.Lines {
		words := []string{either(l.Wrap, wrapWord, noWrapWord)}
		for _, c := range l.Cells {
			words = append(words, cellWord(c))
		}
		tellLine(&b, words...)
	}
	return b.String()
}

func tellLine(b *strings.Builder, words ...string) {
	for i, word := range words {
		if i > 0 {
			b.WriteByte(' ')
		}
		b.WriteString(word)
	}
	b.WriteByte('\n')
}

func either(is bool, yes, no string) string {
	if is {
		return yes
	}
	return no
}

// cellWord is the word of a cell that may be.
func cellWord(c api.Cell) string {
	switch c.Kind {
	case api.Blank:
		return blankWord
	case api.Spacer:
		return spacerWord
	case api.Lead:
		return leadMark + numbersWord(c.Text)
	}
	return numbersWord(c.Text)
}

func numbersWord(text []rune) string {
	var b []byte
	for i, r := range text {
		if i > 0 {
			b = append(b, between...)
		}
		b = strconv.AppendInt(b, int64(r), 16)
	}
	return string(b)
}
