package play

import (
	"math"
	"math/rand"
	"reflect"
	"slices"
	"testing"

	"linotype/api"
	"linotype/screen"
	"linotype/script"
)

func feedOp(s string) api.Op { return api.Op{Kind: api.Feed, Bytes: []byte(s)} }

func sample() script.Script {
	return script.Script{W: 3, H: 1, Ops: []api.Op{feedOp("ab"), {Kind: 99}, feedOp("\xcc"), {Kind: api.EraseLine, A: 7}, feedOp("\x81"), {Kind: api.Resize, A: 2, B: 2}}}
}

// 45.1: the end, with what is refused passed over.
func TestFinal(t *testing.T) {
	s := sample()
	v, err := Final(s)
	if api.Code(err) != 5 || api.At(err) != 1 || v.Wide != 2 || v.High != 2 || !slices.Equal(v.Lines[0].Cells[1].Text, []rune{0x62, 0x301}) {
		t.Error(v, err)
	}
	if got := Refused(s); !slices.Equal(got, []int{1, 3}) {
		t.Error(got)
	}
	if v, err = Final(script.Script{W: math.MinInt, H: math.MaxInt}); err != nil || v.Wide != 1 || v.High != 1024 {
		t.Error(v.Wide, v.High, err)
	}
	if len(Refused(script.Script{})) > 0 {
		t.Error("of nothing something is refused")
	}
}

// 45.2: of a script without operations one step, the blank screen.
func TestNoOps(t *testing.T) {
	count := 0
	for n, v := range Steps(script.Script{W: 2, H: 1}) {
		count++
		if n != 0 || !reflect.DeepEqual(v, screen.New(2, 1).View()) {
			t.Error(n, v)
		}
	}
	if count != 1 {
		t.Error(count)
	}
}

// 45.2: as far as one likes, and anew; what is written into what was handed in or out changes nothing.
func TestSteps(t *testing.T) {
	s := sample()
	steps := Steps(s)
	clear(s.Ops[0].Bytes)
	s.Ops[5] = api.Op{}
	for range 2 {
		n := 0
		for i, v := range steps {
			if i != n {
				t.Errorf("step %d comes as number %d", i, n)
			}
			if i == 1 && v.Lines[0].Cells[0].Text[0] != 'a' || i == 6 && v.High != 2 {
				t.Error(i, v)
			}
			v.Lines[0].Cells[0] = api.Cell{Kind: 9}
			n++
		}
		if n != 7 {
			t.Errorf("%d steps", n)
		}
	}
	for n := range steps {
		if n == 2 {
			break
		}
	}
}

// 45.2: the first of which something holds.
func TestFirst(t *testing.T) {
	s := sample()
	col := func(n int) func(v api.View) bool {
		return func(v api.View) bool { return v.At.Col == n }
	}
	if got := First(s, col(2)); got != 1 {
		t.Error(got)
	}
	if got := First(s, col(0)); got != 0 {
		t.Error(got)
	}
	if got := First(s, func(v api.View) bool { return v.High == 2 }); got != 6 {
		t.Error(got)
	}
	if First(s, col(9)) != -1 || First(s, nil) != -1 {
		t.Error("what never holds holds")
	}
	if got := First(s, func(v api.View) bool { return v.Lines[1].Cells != nil }); got != 6 {
		t.Errorf("behind steps of which nothing is told: %d", got)
	}
}

// 45.3: the last step is the final one; each is the one ahead, with one operation more.
func TestAny(t *testing.T) {
	kinds := []string{"a", "\u0301", "\u4e00", "\ufe0f", "\u2764", "\n", "\xe2", "\x82\xac"}
	rnd := rand.New(rand.NewSource(45))
	for range 500 {
		s := script.Script{W: 1 + rnd.Intn(4), H: 1 + rnd.Intn(3)}
		for range rnd.Intn(8) {
			o := api.Op{Kind: rnd.Intn(16) - 1, A: rnd.Intn(5) - 1, B: rnd.Intn(5) - 1}
			if rnd.Intn(2) == 0 {
				o = feedOp(kinds[rnd.Intn(len(kinds))])
			}
			s.Ops = append(s.Ops, o)
		}
		var refused []int
		x := screen.New(s.W, s.H)
		for n, v := range Steps(s) {
			if n > 0 && x.Do(s.Ops[n-1]) != nil {
				refused = append(refused, n-1)
			}
			if !reflect.DeepEqual(v, x.View()) {
				t.Fatalf("%v: step %d is %v", s, n, v)
			}
		}
		v, err := Final(s)
		if !reflect.DeepEqual(v, x.View()) || !slices.Equal(Refused(s), refused) {
			t.Fatalf("%v: %v, refused %d", s, v, Refused(s))
		}
		if len(refused) == 0 && err != nil || len(refused) > 0 && (api.At(err) != refused[0] || api.Code(err) == 0) {
			t.Fatalf("%v: %v, refused %d", s, err, refused)
		}
	}
}
