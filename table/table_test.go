package table

import (
	"math"
	"math/rand"
	"slices"
	"testing"

	"linotype/measure"
)

func rowOf(l ...string) [][]rune {
	row := make([][]rune, len(l))
	for i, s := range l {
		row[i] = []rune(s)
	}
	return row
}

func texts(l [][]rune) []string {
	var all []string
	for _, line := range l {
		all = append(all, string(line))
	}
	return all
}

// 60.2: the chapter's example.
func TestExample(t *testing.T) {
	rows := [][][]rune{rowOf("a", "bc"), rowOf("d")}
	if got := texts(Lines(rows, 1, Column{}, Column{})); !slices.Equal(got, []string{"a bc", "d   "}) {
		t.Errorf("%q", got)
	}
}

// 60.1: widths of columns.
func TestWidths(t *testing.T) {
	rows := [][][]rune{rowOf("abc", "\u4e00\u4e00", "x"), nil, rowOf("ab\u0301"), rowOf("", "a\n", "xyz", "left out")}
	for _, x := range []struct {
		cols []Column
		want []int
	}{
		{nil, nil},
		{[]Column{{}, {}, {}}, []int{3, 4, 3}},
		{[]Column{{Most: 2}, {Most: 9}, {Most: 3}, {Most: 0}, {Most: 5}}, []int{2, 4, 3, 8, 0}},
		{[]Column{{Most: -1}, {Most: math.MinInt}, {Most: math.MaxInt}}, []int{3, 4, 3}},
	} {
		if got := Widths(rows, x.cols...); !slices.Equal(got, x.want) {
			t.Errorf("%v: %d", x.cols, got)
		}
	}
	long := [][][]rune{{slices.Repeat([]rune{0x4e00}, 600)}}
	if got := Widths(long, Column{}, Column{Most: 5000}); !slices.Equal(got, []int{1024, 0}) {
		t.Error(got)
	}
	if got := Widths(long, Column{Most: 2000}); !slices.Equal(got, []int{1024}) {
		t.Error(got)
	}
	if got := Widths(nil, Column{}, Column{Most: 3}); !slices.Equal(got, []int{0, 0}) {
		t.Error(got)
	}
}

// 60.2: lines, their sides, gaps and cuts.
func TestLines(t *testing.T) {
	rows := [][][]rune{rowOf("abc", "d", "ef"), rowOf("g", "hij", "klmn", "op"), nil}
	for _, x := range []struct {
		gap  int
		cols []Column
		want []string
	}{
		{0, []Column{{}, {}, {}}, []string{"abcd  ef  ", "g  hijklmn", "          "}},
		{2, []Column{{0, 1}, {0, 2}, {2, 0}}, []string{"abc   d   ef", "  g  hij  kl", "            "}},
		{-5, []Column{{0, 9}}, []string{"abc", "g  ", "   "}},
		{math.MinInt, nil, []string{"", "", ""}},
		{1, []Column{{Most: 1}, {Most: 1, Side: 1}}, []string{"a d", "g h", "   "}},
		{1, []Column{{}, {}, {}, {}, {}}, []string{"abc d   ef      ", "g   hij klmn op ", "                "}},
	} {
		if got := texts(Lines(rows, x.gap, x.cols...)); !slices.Equal(got, x.want) {
			t.Errorf("gap %d, %v: %q", x.gap, x.cols, got)
		}
	}
	if got := Lines(rows, math.MaxInt, Column{}, Column{}); len(got[0]) != 3+1024+3 {
		t.Error(len(got[0]))
	}
	if got := Lines([][][]rune{rowOf("\u4e00\u4e00")}, 0, Column{Most: 3, Side: 1}); string(got[0]) != " \u4e00" {
		t.Errorf("%x", got)
	}
	if len(Lines(nil, 3, Column{})) > 0 {
		t.Error("of no rows there are lines")
	}
}

// 60.2: memory of their own.
func TestMemory(t *testing.T) {
	rows := [][][]rune{rowOf("abc"), rowOf("def")}
	got := Lines(rows, 0, Column{})
	got[0][0] = 'z'
	_ = append(got[0], 'y')
	if string(rows[0][0]) != "abc" || string(got[1]) != "def" {
		t.Error("lines share memory")
	}
}

// 60.3: all lines are as wide as all widths, and the gaps between them.
func TestAny(t *testing.T) {
	kinds := []rune{0x61, 0x4e00, 0x2764, 0x1f468, 0x20}
	rnd := rand.New(rand.NewSource(60))
	for range 2000 {
		rows := make([][][]rune, rnd.Intn(5))
		for i := range rows {
			rows[i] = make([][]rune, rnd.Intn(4))
			for k := range rows[i] {
				for range rnd.Intn(5) {
					rows[i][k] = append(rows[i][k], kinds[rnd.Intn(len(kinds))])
				}
				if rnd.Intn(2) == 0 && len(rows[i][k]) > 0 {
					rows[i][k] = append(rows[i][k], 0x301)
				}
			}
		}
		cols := make([]Column, rnd.Intn(4))
		for i := range cols {
			cols[i] = Column{Most: rnd.Intn(8) - 1, Side: rnd.Intn(4)}
		}
		gap := rnd.Intn(3)
		wide := gap * max(len(cols)-1, 0)
		for _, w := range Widths(rows, cols...) {
			wide += w
		}
		lines := Lines(rows, gap, cols...)
		if len(lines) != len(rows) {
			t.Fatal(len(lines))
		}
		for _, line := range lines {
			if measure.Columns(line...) != wide {
				t.Fatalf("%x: %q is %d wide, not %d", rows, string(line), measure.Columns(line...), wide)
			}
		}
	}
}
