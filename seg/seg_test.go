package seg

import (
	"math/rand"
	"slices"
	"testing"

	"linotype/api"
	"linotype/pairs"
	"linotype/ucd"
)

// joins tells by the chapter's words, looking back over the whole row, whether the last of it joins.
func joins(row []api.Prop) bool {
	n := len(row) - 1
	if n == 0 {
		return false
	}
	p, ahead := row[n], row[:n]
	switch {
	case pairs.Join(ahead[n-1].Break, p.Break) == 1:
		return true
	case p.Conj == api.Consonant && linkedAhead(ahead):
		return true
	case p.Pict && pictureAhead(ahead):
		return true
	case p.Break == api.RI:
		count := 0
		for n > 0 && ahead[n-1].Break == api.RI {
			n--
			count++
		}
		return count%2 == 1
	}
	return false
}

func linkedAhead(ahead []api.Prop) bool {
	linker := false
	for _, p := range slices.Backward(ahead) {
		switch p.Conj {
		case api.Consonant:
			return linker
		case api.Linker:
			linker = true
		case api.Joiner:
		default:
			return false
		}
	}
	return false
}

func pictureAhead(ahead []api.Prop) bool {
	n := len(ahead) - 1
	if ahead[n].Pict || ahead[n].Break != api.ZWJ {
		return false
	}
	for _, p := range slices.Backward(ahead[:n]) {
		if p.Pict {
			return true
		}
		if p.Break != api.Extend {
			return false
		}
	}
	return false
}

func someProp(rnd *rand.Rand) api.Prop {
	p := api.Prop{Break: rnd.Intn(16) - 1, Pict: rnd.Intn(3) == 0, Conj: rnd.Intn(4), East: rnd.Intn(4)}
	if rnd.Intn(2) == 0 {
		p.Break = []int{api.Other, api.Extend, api.ZWJ, api.RI}[rnd.Intn(4)]
	}
	if rnd.Intn(50) == 0 {
		p.Conj = 7
	}
	return p
}

// 15.1: rows of any properties, by definition; 15.2: a copy goes on likewise.
func TestRows(t *testing.T) {
	rnd := rand.New(rand.NewSource(15))
	for range 20000 {
		var s State
		var row []api.Prop
		for range 1 + rnd.Intn(8) {
			row = append(row, someProp(rnd))
			other := s
			got := s.Step(row[len(row)-1])
			if got != joins(row) {
				t.Fatalf("%v: the last one joins: %v", row, got)
			}
			if other.Step(row[len(row)-1]) != got || other != s {
				t.Fatalf("%v: a copy goes on otherwise", row)
			}
		}
	}
}

func steps(s *State, row ...rune) []bool {
	var told []bool
	for _, r := range row {
		told = append(told, s.Step(ucd.Of(r)))
	}
	return told
}

// 15.1: rows of scalar values, rule by rule.
func TestRules(t *testing.T) {
	for _, x := range []struct {
		row  []rune
		want []bool
	}{
		{[]rune{0x915, 0x94d, 0x915}, []bool{false, true, true}},
		{[]rune{0x1f1e9, 0x1f1ea, 0x1f1eb}, []bool{false, true, false}},
		{[]rune{0x1f1e9, 0x1f1ea, 0x1f1eb, 0x1f1ec}, []bool{false, true, false, true}},
		{[]rune{0x61, 0x1f1e9, 0x301, 0x1f1ea}, []bool{false, false, true, false}},
		{[]rune{0xd, 0xa, 0xa}, []bool{false, true, false}},
		{[]rune{0x301, 0x61}, []bool{false, false}},
		{[]rune{0x1f468, 0x200d, 0x1f469}, []bool{false, true, true}},
		{[]rune{0x1f468, 0x1f3fb, 0x200d, 0x1f469}, []bool{false, true, true, true}},
		{[]rune{0x1f468, 0x200d, 0x200d, 0x1f469}, []bool{false, true, true, false}},
		{[]rune{0x1f468, 0x200d, 0x301, 0x1f469}, []bool{false, true, true, false}},
		{[]rune{0x61, 0x200d, 0x1f469}, []bool{false, true, false}},
		{[]rune{0x200d, 0x1f469}, []bool{false, false}},
		{[]rune{0x915, 0x200d, 0x94d, 0x300, 0x915}, []bool{false, true, true, true, true}},
		{[]rune{0x915, 0x200d, 0x915}, []bool{false, true, false}},
		{[]rune{0x94d, 0x915}, []bool{false, false}},
		{[]rune{0x915, 0x61, 0x94d, 0x915}, []bool{false, false, true, false}},
		{[]rune{0x1100, 0x1161, 0x11a8, 0x1100}, []bool{false, true, true, false}},
		{[]rune{0x600, 0x61, 0x903}, []bool{false, true, true}},
		{[]rune{0x600, 0xa}, []bool{false, false}},
	} {
		var s State
		if got := steps(&s, x.row...); !slices.Equal(got, x.want) {
			t.Errorf("%x: %v", x.row, got)
		}
	}
}

// 15.1: Reset, and a nil state.
func TestReset(t *testing.T) {
	var s State
	steps(&s, 0x1f468, 0x200d)
	s.Reset()
	if s != (State{}) || s.Step(ucd.Of(0x301)) || !s.Step(ucd.Of(0x301)) {
		t.Error("what was told is not forgotten")
	}
	var none *State
	none.Reset()
	if none.Step(ucd.Of(0x61)) || none.Step(ucd.Of(0x301)) {
		t.Error("of a nil state something joins")
	}
}

// 15.2: what stands ahead of what breaks on both sides, and is neither a linker nor a joiner, has no influence.
func TestForgets(t *testing.T) {
	rnd := rand.New(rand.NewSource(152))
	for range 2000 {
		var s, fresh State
		for range rnd.Intn(6) {
			s.Step(someProp(rnd))
		}
		p := api.Prop{Break: []int{api.CR, api.LF, api.Control}[rnd.Intn(3)]}
		s.Step(p)
		fresh.Step(p)
		if s != fresh {
			t.Fatalf("%v, but by itself %v", s, fresh)
		}
	}
}
