package script

import (
	"bytes"
	"math"
	"math/rand"
	"reflect"
	"strings"
	"testing"

	"linotype/api"
)

func same(a, b api.Op) bool {
	return a.Kind == b.Kind && a.A == b.A && a.B == b.B && bytes.Equal(a.Bytes, b.Bytes)
}

// 44.1: each kind's line, there and back.
func TestLines(t *testing.T) {
	for line, o := range map[string]api.Op{
		"feed 61e4":             {Kind: api.Feed, Bytes: []byte{0x61, 0xe4}},
		"feed 00ff":             {Kind: api.Feed, Bytes: []byte{0, 0xff}},
		"feed -":                {Kind: api.Feed},
		"flush":                 {Kind: api.Flush},
		"move 0 -3":             {Kind: api.Move, B: -3},
		"move 12 345":           {Kind: api.Move, A: 12, B: 345},
		"erase line 0":          {Kind: api.EraseLine},
		"erase screen 2":        {Kind: api.EraseScreen, A: 2},
		"erase cells 7":         {Kind: api.EraseCells, A: 7},
		"insert cells -1":       {Kind: api.InsertCells, A: -1},
		"insert lines 1":        {Kind: api.InsertLines, A: 1},
		"delete cells 1":        {Kind: api.DeleteCells, A: 1},
		"delete lines 10":       {Kind: api.DeleteLines, A: 10},
		"scroll up 1":           {Kind: api.ScrollUp, A: 1},
		"scroll down 999999999": {Kind: api.ScrollDown, A: 999999999},
		"wrap on":               {Kind: api.Autowrap, A: 1},
		"wrap off":              {Kind: api.Autowrap},
		"resize 80 -999999999":  {Kind: api.Resize, A: 80, B: -999999999},
	} {
		if got := Line(o); got != line {
			t.Errorf("Line(%v): %q", o, got)
		}
		if got, err := Parse(line); err != nil || !same(got, o) {
			t.Errorf("Parse(%q): %v, %v", line, got, err)
		}
	}
}

func wrongOps() []api.Op {
	return []api.Op{
		{Kind: -1}, {Kind: 14}, {Kind: math.MinInt}, {Kind: math.MaxInt},
		{Kind: api.Feed, A: 1}, {Kind: api.Feed, B: 1}, {Kind: api.Flush, A: 1}, {Kind: api.Flush, Bytes: []byte{0}}, {Kind: api.Flush, B: -1},
		{Kind: api.Move, Bytes: []byte{0}}, {Kind: api.Move, A: 1000000000}, {Kind: api.Move, B: -1000000000}, {Kind: api.Resize, A: math.MinInt}, {Kind: api.Resize, B: math.MaxInt},
		{Kind: api.EraseLine, B: 1}, {Kind: api.EraseLine, A: 1000000000}, {Kind: api.ScrollUp, Bytes: []byte{1}},
		{Kind: api.Autowrap, A: 2}, {Kind: api.Autowrap, A: -1}, {Kind: api.Autowrap, A: 1, B: 1},
	}
}

// 44.1, 44.2: what is not right has no line, and no text.
func TestRight(t *testing.T) {
	for _, o := range wrongOps() {
		s := Script{80, 24, []api.Op{{Kind: api.Flush}, o}}
		if Line(o) != "" || Right(s) || Tell(s) != "" {
			t.Errorf("%v has the line %q", o, Line(o))
		}
	}
	for _, s := range []Script{{W: 1000000000}, {H: -1000000000}, {W: math.MinInt}, {H: math.MaxInt}} {
		if Right(s) || Tell(s) != "" {
			t.Errorf("%v has the text %q", s, Tell(s))
		}
	}
	for _, s := range []Script{{}, {W: -999999999, H: 999999999}, {1, 1, []api.Op{{Kind: api.Flush, Bytes: []byte{}}}}} {
		if !Right(s) || Tell(s) == "" {
			t.Errorf("%v is not right", s)
		}
	}
}

// 44.1: the first word that is not as it must be.
func TestParseWrong(t *testing.T) {
	for line, at := range map[string]int{
		"": 0, " ": 0, "fed": 0, "Feed 61": 0, " feed 61": 0, "feed": 1, "feed ": 1, "feed 6": 1, "feed 6A": 1, "feed 6g": 1, "feed --": 1, "feed 61 62": 2, "feed 61 ": 2, "feed  61": 1, "feed 61\n": 1,
		"flush ": 1, "flush 0": 1, "flush\n": 0, "size 3 1": 0,
		"move": 1, "move 1": 2, "move 1 ": 2, "move x 1": 1, "move 1 x": 2, "move 1 2 3": 3, "move x y z": 1,
		"move 01 1": 1, "move -0 1": 1, "move - 1": 1, "move +1 1": 1, "move 1 1000000000": 2, "move 1 -1000000000": 2, "move 00 0": 1, "move 1 -01": 2, "move 1_0 1": 1, "move 1 ٣": 2,
		"erase": 1, "erase 5": 1, "scroll 1": 1, "insert 3": 1, "delete 2": 1, "erase lines 1": 1, "erase line": 2, "erase line x": 2, "erase line 1 2": 3, "erase  line 1": 1, "erase up 1": 1,
		"insert line 1": 1, "insert screen 1": 1, "delete screen 1": 1, "insert cells": 2, "delete lines -": 2, "scroll left 1": 1, "scroll up": 2, "scroll up one": 2,
		"wrap": 1, "wrap 1": 1, "wrap On": 1, "wrap on off": 2, "resize 1": 2, "resize 1 2 3": 3, "line 1": 0, "cells": 0,
	} {
		o, err := Parse(line)
		if api.Code(err) != 6 || api.At(err) != at || api.Within(err) != -1 || !reflect.DeepEqual(o, api.Op{}) {
			t.Errorf("Parse(%q): %v, %v at %d", line, o, err, api.At(err))
		}
	}
}

// 44.2: scripts told, and read.
func TestTellAndRead(t *testing.T) {
	s := Script{2, 1, []api.Op{{Kind: api.Feed, Bytes: []byte("ab")}, {Kind: api.Resize, A: -1, B: 0}}}
	const text = "size 2 1\nfeed 6162\nresize -1 0\n"
	if got := Tell(s); got != text {
		t.Error(got)
	}
	if got, err := Read(text); err != nil || Tell(got) != text || len(got.Ops) != 2 {
		t.Error(got, err)
	}
	if got, err := Read("size 0 0\n"); err != nil || got.W != 0 || len(got.Ops) > 0 {
		t.Error(got, err)
	}
}

// 44.2: what is no script's text.
func TestReadWrong(t *testing.T) {
	for _, x := range []struct {
		text             string
		code, at, within int
	}{
		{"", 2, 0, -1},
		{"size 2 1", 2, 0, -1},
		{"size x", 2, 0, -1},
		{"\n", 6, 0, 0},
		{"flush\n", 6, 0, 0},
		{"size\n", 6, 0, 1},
		{"size 2\n", 6, 0, 2},
		{"size 2 x\n", 6, 0, 2},
		{"size 2 1 1\n", 6, 0, 3},
		{"size 02 1\n", 6, 0, 1},
		{"size 2 1\n\n", 6, 1, 0},
		{"size 2 1\nflush\nflush", 2, 2, -1},
		{"size 2 1\nflush\nfoo", 2, 2, -1},
		{"size 2 1\nfoo\nflush", 6, 1, 0},
		{"size 2 1\nflush\nmove 1\nfoo\n", 6, 2, 2},
		{"size 2 1\nsize 2 1\n", 6, 1, 0},
		{"size 2 1\r\n", 6, 0, 2},
	} {
		s, err := Read(x.text)
		if api.Code(err) != x.code || api.At(err) != x.at || api.Within(err) != x.within || !reflect.DeepEqual(s, Script{}) {
			t.Errorf("%q: %v at %d, %d", x.text, err, api.At(err), api.Within(err))
		}
	}
}

// 44.2: texts of MaxScript bytes, and more.
func TestLong(t *testing.T) {
	text := "size 2 1\nmove 1 1\nmove 1 10\n"
	text += strings.Repeat("flush\n", (api.MaxScript-len(text))/len("flush\n"))
	if s, err := Read(text); len(text) != api.MaxScript || err != nil || Tell(s) != text {
		t.Error(len(text), err)
	}
	for _, text := range []string{text + "flush\n", strings.Repeat("x", api.MaxScript+1)} {
		if s, err := Read(text); api.Code(err) != 4 || api.At(err) != -1 || !reflect.DeepEqual(s, Script{}) {
			t.Error(err)
		}
	}
}

// 44.3: a right script is read from its text.
func TestAny(t *testing.T) {
	rnd := rand.New(rand.NewSource(44))
	number := func() int { return rnd.Intn(1<<rnd.Intn(30)) - rnd.Intn(3) }
	for range 2000 {
		s := Script{W: number(), H: number()}
		for range rnd.Intn(10) {
			o := api.Op{Kind: rnd.Intn(14)}
			switch o.Kind {
			case api.Feed:
				o.Bytes = make([]byte, rnd.Intn(5))
				rnd.Read(o.Bytes)
			case api.Flush:
			case api.Autowrap:
				o.A = rnd.Intn(2)
			case api.Move, api.Resize:
				o.A, o.B = number(), number()
			default:
				o.A = number()
			}
			s.Ops = append(s.Ops, o)
		}
		got, err := Read(Tell(s))
		if !Right(s) || err != nil || got.W != s.W || got.H != s.H || len(got.Ops) != len(s.Ops) {
			t.Fatalf("%v: %v, %v", s, got, err)
		}
		for i, o := range got.Ops {
			if !same(o, s.Ops[i]) {
				t.Fatalf("%v: %v", s.Ops[i], o)
			}
		}
	}
}
