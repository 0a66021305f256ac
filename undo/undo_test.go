package undo

import (
	"math"
	"math/rand"
	"reflect"
	"testing"

	"linotype/api"
	"linotype/screen"
)

// letter is a view of one cell.
func letter(r rune) api.View {
	return api.View{Wide: 1, High: 1, Lines: []api.Line{{Cells: []api.Cell{{Kind: api.One, Text: []rune{r}}}}}}
}

func wrong() api.View {
	return api.View{Wide: 1, High: 1, Lines: []api.Line{{Cells: []api.Cell{{Kind: api.Spacer}}}}}
}

// shows: is a letter shown, with so many ahead and behind?
func shows(t *testing.T, b *Book, r rune, ahead, behind int) {
	t.Helper()
	if v := b.View(); !reflect.DeepEqual(v, letter(r)) || b.Ahead() != ahead || b.Behind() != behind {
		t.Errorf("%v, %d, %d", v, b.Ahead(), b.Behind())
	}
}

func push(t *testing.T, b *Book, l ...rune) {
	t.Helper()
	for _, r := range l {
		if err := b.Push(letter(r)); err != nil {
			t.Error(err)
		}
	}
}

// 56.2: the chapter's example, and further.
func TestExample(t *testing.T) {
	b := New(letter('a'), 5)
	shows(t, b, 'a', 0, 0)
	push(t, b, 'b', 'c')
	if b.Back(1) != 1 {
		t.Error("it doesn't go back")
	}
	shows(t, b, 'b', 1, 1)
	if b.Forward(9) != 1 {
		t.Error("it doesn't go forward once")
	}
	shows(t, b, 'c', 2, 0)
	if b.Back(math.MaxInt) != 2 {
		t.Error("it doesn't go back twice")
	}
	shows(t, b, 'a', 0, 2)
	for _, n := range []int{0, -1, math.MinInt} {
		if b.Forward(n) != 0 || b.Back(n) != 0 {
			t.Error(n)
		}
	}
	push(t, b, 'd')
	shows(t, b, 'd', 1, 0)
	if b.Forward(1) != 0 || b.Back(2) != 1 {
		t.Error("what was behind is there still")
	}
	shows(t, b, 'a', 0, 1)
}

// 56.1: how many are ahead at most.
func TestMost(t *testing.T) {
	for most, want := range map[int]int{math.MinInt: 1, 0: 1, 1: 1, 3: 3, 1024: 1024, 1025: 1024, math.MaxInt: 1024} {
		b := New(letter(0), most)
		for i := range 1030 {
			push(t, b, rune(i+1))
		}
		if b.Ahead() != want || b.Back(5000) != want {
			t.Errorf("New(%d): %d are ahead", most, b.Ahead())
		}
		shows(t, b, rune(1030-want), 0, want)
	}
}

// 56.1, 56.2: what is not sound, and a nil book.
func TestWrong(t *testing.T) {
	if New(wrong(), 5) != nil || New(api.View{}, 5) != nil {
		t.Error("there is a book of what is not sound")
	}
	b := New(letter('a'), 5)
	push(t, b, 'b')
	b.Back(1)
	if err := b.Push(wrong()); api.Code(err) != 5 || api.At(err) != -1 {
		t.Error(err)
	}
	shows(t, b, 'a', 0, 1)
	var none *Book
	if api.Code(none.Push(letter('a'))) != 8 || api.Code(none.Push(wrong())) != 8 || none.Back(1) != 0 || none.Forward(1) != 0 || none.Ahead() != 0 || none.Behind() != 0 || !reflect.DeepEqual(none.View(), api.View{}) {
		t.Error("a nil book has something")
	}
}

// 56.1, 56.2: memory of its own.
func TestMemory(t *testing.T) {
	v, w := letter('a'), letter('b')
	b := New(v, 5)
	if err := b.Push(w); err != nil {
		t.Error(err)
	}
	v.Lines[0].Cells[0].Text[0], w.Lines[0].Cells[0].Text[0] = 'x', 'y'
	b.View().Lines[0].Cells[0].Text[0] = 'z'
	shows(t, b, 'b', 1, 0)
	b.Back(1)
	shows(t, b, 'a', 0, 1)
}

// 56.2, 56.3: any views, of any sizes, by a list of them.
func TestAny(t *testing.T) {
	kinds := []string{"a", "b\u0301", "\u4e00", "\r\n", "abc"}
	rnd := rand.New(rand.NewSource(56))
	for range 200 {
		s := screen.New(3, 2)
		most := 1 + rnd.Intn(4)
		b := New(s.View(), most)
		all, at := []api.View{s.View()}, 0
		for range 30 {
			switch n := rnd.Intn(4) - 1; rnd.Intn(4) {
			case 0:
				want := min(max(n, 0), at)
				if b.Back(n) != want {
					t.Fatal(n, at)
				}
				at -= want
			case 1:
				want := min(max(n, 0), len(all)-1-at)
				if b.Forward(n) != want {
					t.Fatal(n, at)
				}
				at += want
			default:
				_ = s.Do(api.Op{Bytes: []byte(kinds[rnd.Intn(len(kinds))])})
				if rnd.Intn(4) == 0 {
					_ = s.Do(api.Op{Kind: 2 + rnd.Intn(12), A: 1 + rnd.Intn(3), B: 1 + rnd.Intn(3)})
				}
				if err := b.Push(s.View()); err != nil {
					t.Fatal(err)
				}
				all = append(all[:at+1:at+1], s.View())
				all = all[max(len(all)-1-most, 0):]
				at = len(all) - 1
			}
			if !reflect.DeepEqual(b.View(), all[at]) || b.Ahead() != at || b.Behind() != len(all)-1-at {
				t.Fatalf("%v is shown, %d ahead, %d behind", b.View(), b.Ahead(), b.Behind())
			}
		}
	}
}
