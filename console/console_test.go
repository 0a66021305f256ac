package console

import (
	"math/rand"
	"strings"
	"testing"

	"linotype/api"
	"linotype/screen"
	"linotype/script"
	"linotype/snap"
)

// lines are lines that end with a line feed each.
func lines(l ...string) string {
	s := ""
	for _, line := range l {
		s += line + "\n"
	}
	return s
}

// 49.1: the chapter's example, and each line.
func TestRun(t *testing.T) {
	for _, x := range []struct{ in, want string }{
		{"", ""},
		{lines("size 3 1", "feed 6162", "cursor"), lines("ok", "ok", "0 2")},
		{lines("", "# size x", "#", "\n"), ""},
		{"cursor", lines("0 0")},
		{"held\ncursor", lines("0", "0 0")},
		{lines("used"), lines("0 30720")},
		{lines("text"), lines("-")},
		{lines("size 2 1", "feed 6162", "cursor", "text", "show", "used"), lines("ok", "ok", "0 1 pending", "6162", "screen 2 1", "at 0 1 pending", "auto on", "- 61 62", "2 32")},
		{lines("feed e282", "held", "feed ac", "held", "text", "feed 0a62", "text", "flush", "held"), lines("ok", "2", "ok", "0", "e282ac", "ok", "e282ac0a2062", "ok", "0")},
		{lines("erase line 3", "erase screen -1", "erase line 2", "wrap off", "resize 1 1", "show"), lines("refused 3", "refused 3", "ok", "ok", "ok", "screen 1 1", "at 0 0", "auto off", "- .")},
		{lines("size", "size x 1", "size 3", "size 3 y", "size 3 1 1", "size  3 1", "size 3 1 ", "sizes 3 1", "Size 3 1"), lines("? 1", "? 1", "? 2", "? 2", "? 3", "? 1", "? 3", "? 0", "? 0")},
		{lines("size -5 0", "used", "size 999999999 1", "used"), lines("ok", "0 16", "ok", "0 16384")},
		{lines("foo", "show it", "show ", " show", "move 1", "feed 6", "erase foo 1", "wrap", " # x", "flush now"), lines("? 0", "? 0", "? 0", "? 0", "? 2", "? 1", "? 1", "? 1", "? 0", "? 1")},
		{lines("cursor\r", "text\x00"), lines("? 0", "? 0")},
		{lines("size 3 1", "feed 61", "size 3 1", "text", "cursor"), lines("ok", "ok", "ok", "-", "0 0")},
		{lines("size 3 1", "feed 61", "move 0 0", "feed cc81", "show"), lines("ok", "ok", "ok", "ok", "screen 3 1", "at 0 1", "auto on", "- 301 . .")},
	} {
		if got := Run(x.in); got != x.want {
			t.Errorf("%q:\n%s", x.in, got)
		}
	}
}

// 49.1: lines that are too long for a script.
func TestLong(t *testing.T) {
	for in, want := range map[string]string{
		"size " + strings.Repeat("1", 100000):        "? 1",
		"size 3 " + strings.Repeat("1", 100000):      "? 2",
		"size 3 1 " + strings.Repeat("1", 100000):    "? 3",
		"size 3 1" + strings.Repeat(" ", 100000):     "? 3",
		"#" + strings.Repeat("1", 100000) + "\nheld": "0",
		"feed " + strings.Repeat("61", 100000):       "ok",
		"feed " + strings.Repeat("61", 100000) + "x": "? 1",
	} {
		if got := Run(in); got != want+"\n" {
			t.Errorf("%.20q: %q", in, got)
		}
	}
}

// 49.1, 49.2: what is answered to operations is what a screen answers; lines ahead of size don't matter.
func TestScreens(t *testing.T) {
	rnd := rand.New(rand.NewSource(49))
	for range 300 {
		s := screen.New(4, 2)
		in, want := "size 4 2\n", "ok\n"
		for range rnd.Intn(10) {
			o := api.Op{Kind: 2 + rnd.Intn(10), A: rnd.Intn(5) - 1}
			if rnd.Intn(2) == 0 {
				o = api.Op{Bytes: []byte{byte(rnd.Intn(256)), byte(rnd.Intn(256))}}
			}
			in += script.Line(o) + "\nshow\n"
			if err := s.Do(o); err != nil {
				want += "refused 3\n"
			} else {
				want += "ok\n"
			}
			want += snap.Tell(s.View())
		}
		if got := Run(in); got != want {
			t.Fatalf("%s:\n%s\nnot\n%s", in, got, want)
		}
		const ahead = "size 2 2\nfeed e261\nwrap off\nfoo\n"
		if got := Run(ahead + in); got != Run(ahead)+want {
			t.Fatalf("behind other lines %s:\n%s", in, got)
		}
	}
}
