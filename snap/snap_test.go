package snap

import (
	"math"
	"math/rand"
	"reflect"
	"strings"
	"testing"

	"linotype/api"
	"linotype/cell"
	"linotype/screen"
)

func blank() api.Cell         { return api.Cell{} }
func spacer() api.Cell        { return api.Cell{Kind: api.Spacer} }
func one(l ...rune) api.Cell  { return api.Cell{Kind: api.One, Text: l} }
func lead(l ...rune) api.Cell { return api.Cell{Kind: api.Lead, Text: l} }

func line(wrap bool, l ...api.Cell) api.Line { return api.Line{Cells: l, Wrap: wrap} }

// sample is a view of 3 columns and 2 rows.
func sample() api.View {
	return api.View{
		Wide: 3, High: 2, At: api.Cursor{Row: 1, Col: 2, Pending: true}, Auto: true,
		Lines: []api.Line{line(true, one(0x61, 0x301), lead(0x10ffff), spacer()), line(false, blank(), blank(), one(0))},
	}
}

const sampleText = "screen 3 2\nat 1 2 pending\nauto on\n+ 61+301 >10ffff =\n- . . 0\n"

// 43.1: the chapter's example.
func TestExample(t *testing.T) {
	s := screen.New(2, 1)
	if err := s.Do(api.Op{Bytes: []byte("\u4e00")}); err != nil {
		t.Error(err)
	}
	if got := Tell(s.View()); got != "screen 2 1\nat 0 1 pending\nauto on\n- >4e00 =\n" {
		t.Error(got)
	}
}

// 43.1, 43.2: a view is told, and read.
func TestTellAndRead(t *testing.T) {
	v := sample()
	if got := Tell(v); got != sampleText || !Right(v) {
		t.Error(got)
	}
	if got, err := Read(sampleText); err != nil || !reflect.DeepEqual(got, v) {
		t.Error(got, err)
	}
	v.Auto, v.At = false, api.Cursor{}
	want := "screen 3 2\nat 0 0\nauto off\n+ 61+301 >10ffff =\n- . . 0\n"
	if got := Tell(v); got != want {
		t.Error(got)
	}
	if got, err := Read(want); err != nil || !reflect.DeepEqual(got, v) {
		t.Error(got, err)
	}
}

// 43.1: which views are not right; they are not told.
func TestRight(t *testing.T) {
	for name, change := range map[string]func(v *api.View){
		"Wide 0":        func(v *api.View) { v.Wide = 0 },
		"Wide 2":        func(v *api.View) { v.Wide = 2 },
		"Wide negative": func(v *api.View) { v.Wide = math.MinInt },
		"High 0":        func(v *api.View) { v.High, v.Lines = 0, nil },
		"High 3":        func(v *api.View) { v.High = 3 },
		"High too many": func(v *api.View) { v.High, v.Lines = 1025, make([]api.Line, 1025) },
		"no lines":      func(v *api.View) { v.Lines = nil },
		"a long line":   func(v *api.View) { v.Lines[1].Cells = make([]api.Cell, 4) },
		"a short line":  func(v *api.View) { v.Lines[1].Cells = nil },
		"a Spacer":      func(v *api.View) { v.Lines[1].Cells[0] = spacer() },
		"a Lead":        func(v *api.View) { v.Lines[1].Cells[2] = lead(0x61) },
		"no scalar":     func(v *api.View) { v.Lines[1].Cells[2] = one(0xd800) },
		"no kind":       func(v *api.View) { v.Lines[1].Cells[2].Kind = 4 },
		"Row":           func(v *api.View) { v.At.Row = 2 },
		"Col":           func(v *api.View) { v.At.Col = -1 },
		"pending":       func(v *api.View) { v.At.Col = 1 },
	} {
		v := sample()
		change(&v)
		if Right(v) || Tell(v) != "" {
			t.Errorf("%s: %s", name, Tell(v))
		}
	}
	wide := api.View{Wide: 1025, High: 1, Lines: []api.Line{{Cells: make([]api.Cell, 1025)}}}
	if Right(wide) || Right(api.View{}) {
		t.Error("a view is right that is not")
	}
}

// 43.1: what is no view's text: the first line that is none, and its first word.
func TestReadWrong(t *testing.T) {
	const cells = "+ 61+301 >10ffff =\n- . . 0\n"
	const head = "screen 3 2\nat 1 2 pending\nauto on\n"
	sixteen := strings.Repeat("61+", 15) + "61"
	for _, x := range []struct {
		s                string
		code, at, within int
	}{
		{"", 2, 0, -1},
		{"\n", 6, 0, 0},
		{"screen 3 2", 2, 0, -1},
		{"screen 3 2\n", 2, 1, -1},
		{"scren 3 2\n", 6, 0, 0},
		{" screen 3 2\n", 6, 0, 0},
		{"screen\n", 6, 0, 1},
		{"screen 3\n", 6, 0, 2},
		{"screen 3 2 1\n", 6, 0, 3},
		{"screen 3 2 \n", 6, 0, 3},
		{"screen  3 2\n", 6, 0, 1},
		{"screen 0 2\n", 6, 0, 1},
		{"screen 03 2\n", 6, 0, 1},
		{"screen 1025 2\n", 6, 0, 1},
		{"screen -3 2\n", 6, 0, 1},
		{"screen +3 2\n", 6, 0, 1},
		{"screen 3 12345\n", 6, 0, 2},
		{"screen 3 2\r\n", 6, 0, 2},
		{"screen 1024 1024\n", 2, 1, -1},
		{"screen 3 2\nat 2 0\n", 6, 1, 1},
		{"screen 3 2\nat 1 3\n", 6, 1, 2},
		{"screen 3 2\nat 1 2 pendin\n", 6, 1, 3},
		{"screen 3 2\nat 1 1 pending\n", 6, 1, 3},
		{"screen 3 2\nat 1 2 pending pending\n", 6, 1, 4},
		{"screen 3 2\nat 1 9 pending pending\n", 6, 1, 2},
		{"screen 3 2\nat 1\n", 6, 1, 2},
		{"screen 3 2\nat -1 2\n", 6, 1, 1},
		{"screen 3 2\nat 1 2\nauto yes\n", 6, 2, 1},
		{"screen 3 2\nat 1 2\nauto\n", 6, 2, 1},
		{"screen 3 2\nat 1 2\nAuto on\n", 6, 2, 0},
		{"screen 3 2\nat 1 2\nauto on off\n", 6, 2, 2},
		{head, 2, 3, -1},
		{head + "+ 61+301 >10ffff =", 2, 3, -1},
		{head + "+ 61+301 >10ffff =\n", 2, 4, -1},
		{head + "* 61+301 >10ffff =\n", 6, 3, 0},
		{head + "\n", 6, 3, 0},
		{head + "+\n", 6, 3, 1},
		{head + "+ . .\n", 6, 3, 3},
		{head + "+ . . . .\n", 6, 3, 4},
		{head + "+ . . . x\n", 6, 3, 4},
		{head + "+ . x . .\n", 6, 3, 2},
		{head + "+ . 061 .\n", 6, 3, 2},
		{head + "+ . 6A .\n", 6, 3, 2},
		{head + "+ . 61+ .\n", 6, 3, 2},
		{head + "+ . + .\n", 6, 3, 2},
		{head + "+ . > .\n", 6, 3, 2},
		{head + "+ . >> .\n", 6, 3, 2},
		{head + "+ . 1234567 .\n", 6, 3, 2},
		{head + "+ . -1 .\n", 6, 3, 2},
		{head + "+ . =61 .\n", 6, 3, 2},
		{head + "+ . = .\n", 5, 3, -1},
		{head + "+ . . >61\n", 5, 3, -1},
		{head + "+ >61 = >61\n", 5, 3, -1},
		{head + "+ >61 >61 =\n", 5, 3, -1},
		{head + "+ . >61 .\n", 5, 3, -1},
		{head + "+ " + sixteen + " = .\n", 5, 3, -1},
		{head + "+ . d800 .\n", 6, 3, 2},
		{head + "+ . dfff .\n", 6, 3, 2},
		{head + "+ . >d800 =\n", 6, 3, 2},
		{head + "+ . 61+dfff .\n", 6, 3, 2},
		{head + "+ . 110000 .\n", 6, 3, 2},
		{head + "+ . ffffff .\n", 6, 3, 2},
		{head + "+ . " + sixteen + "+61 .\n", 6, 3, 2},
		{head + "+ >" + sixteen + "+61 = .\n", 6, 3, 1},
		{head + "+ = . d800\n", 6, 3, 3},
		{head + "+ = >61 d800 .\n", 6, 3, 3},
		{head + "+ d7ff e000 10ffff\n", 2, 4, -1},
		{head + cells + "\n", 2, 5, -1},
		{head + cells + "x", 2, 5, -1},
		{head + cells + "- . . .\n", 2, 5, -1},
	} {
		v, err := Read(x.s)
		if api.Code(err) != x.code || api.At(err) != x.at || api.Within(err) != x.within || !reflect.DeepEqual(v, api.View{}) {
			t.Errorf("%q: %v at %d, %d", x.s, err, api.At(err), api.Within(err))
		}
	}
	if _, err := Read(head + "+ . " + sixteen + " .\n- 0 0 0\n"); err != nil {
		t.Error(err)
	}
}

// 43.1, 43.2: texts of more than 2^20 bytes.
func TestLong(t *testing.T) {
	v := api.View{Wide: 1024, High: 1024, Lines: make([]api.Line, 1024)}
	for i := range v.Lines {
		v.Lines[i].Cells = cell.Blanks(1024)
	}
	s := Tell(v)
	if got, err := Read(s); len(s) <= 1<<20 || err != nil || got.High != 1024 || Tell(got) != s {
		t.Error(len(s), err)
	}
	if got, err := Read(s + "x"); api.Code(err) != 4 || api.At(err) != -1 || got.Lines != nil {
		t.Error(err)
	}
	if _, err := Read(strings.Repeat("x", 1<<20)); api.Code(err) != 2 || api.At(err) != 0 {
		t.Error(err)
	}
	if _, err := Read(strings.Repeat("x", 1<<20+1)); api.Code(err) != 4 {
		t.Error(err)
	}
}

// 43.2: what screens show is read from its text.
func TestScreens(t *testing.T) {
	kinds := []string{"a", "b\u0301", "\u4e00", "\u2764\ufe0f", "\n", "\r", "\U0001f468\u200d\U0001f469", "\xff"}
	rnd := rand.New(rand.NewSource(43))
	for range 1000 {
		s := screen.New(1+rnd.Intn(5), 1+rnd.Intn(4))
		for range rnd.Intn(10) {
			_ = s.Do(api.Op{Bytes: []byte(kinds[rnd.Intn(len(kinds))])})
		}
		if rnd.Intn(3) == 0 {
			_ = s.Do(api.Op{Kind: api.Autowrap})
		}
		v := s.View()
		got, err := Read(Tell(v))
		if !Right(v) || err != nil || !reflect.DeepEqual(got, v) {
			t.Fatalf("%v: %v, %v", v, got, err)
		}
	}
}
