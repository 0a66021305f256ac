package scalar

import (
	"bytes"
	"errors"
	"math"
	"slices"
	"testing"
	"unicode/utf8"

	"linotype/api"
)

// edges are the numbers at which validity or the size of a form changes, their neighbours, and the ends of rune.
func edges() []rune {
	return []rune{
		math.MinInt32, math.MinInt32 + 1, -0x10ffff, -0x80, -1,
		0, 1, 0x61, 0x7f, 0x80, 0x81, 0x7ff, 0x800, 0x20ac,
		0xd7ff, 0xd800, 0xdbff, 0xdc00, 0xdfff, 0xe000, 0xfffd, 0xffff,
		0x10000, 0x1f600, 0xfffff, 0x100000, 0x10ffff,
		0x110000, 0x1fffff, 0x200000, math.MaxInt32 - 1, math.MaxInt32,
	}
}

func isScalar(r rune) bool {
	return 0 <= r && r < 0xd800 || 0xe000 <= r && r <= 0x10ffff
}

// everyNumber calls f with all numbers around the scalar values, and with the edges.
func everyNumber(f func(r rune)) {
	for r := rune(-0x1000); r <= 0x111000; r++ {
		f(r)
	}
	for _, r := range edges() {
		f(r)
	}
}

// 1.1: the edges, one by one.
func TestEdges(t *testing.T) {
	for _, x := range []struct {
		r    rune
		form string
	}{
		{0, "\x00"}, {0x61, "\x61"}, {0x7f, "\x7f"},
		{0x80, "\xc2\x80"}, {0x301, "\xcc\x81"}, {0x7ff, "\xdf\xbf"},
		{0x800, "\xe0\xa0\x80"}, {0x20ac, "\xe2\x82\xac"}, {0x4e00, "\xe4\xb8\x80"},
		{0xd7ff, "\xed\x9f\xbf"}, {0xe000, "\xee\x80\x80"}, {0xfffd, "\xef\xbf\xbd"}, {0xffff, "\xef\xbf\xbf"},
		{0x10000, "\xf0\x90\x80\x80"}, {0x1f600, "\xf0\x9f\x98\x80"}, {0x10ffff, "\xf4\x8f\xbf\xbf"},
	} {
		if !Valid(x.r) || Size(x.r) != len(x.form) || string(Form(x.r)) != x.form {
			t.Errorf("%x: Valid %v, Size %d, Form % x", x.r, Valid(x.r), Size(x.r), Form(x.r))
		}
	}
	for _, r := range []rune{math.MinInt32, -1, 0xd800, 0xdabc, 0xdfff, 0x110000, math.MaxInt32} {
		if Valid(r) || Size(r) != 0 || len(Form(r)) != 0 {
			t.Errorf("%x: Valid %v, Size %d, Form % x", r, Valid(r), Size(r), Form(r))
		}
	}
}

// 1.1: all scalar values, and numbers that are none.
func TestEveryNumber(t *testing.T) {
	everyNumber(func(r rune) {
		var want []byte
		if isScalar(r) {
			want = utf8.AppendRune(nil, r)
		}
		if Valid(r) != isScalar(r) || Size(r) != len(want) || !bytes.Equal(Form(r), want) {
			t.Fatalf("%x: Valid %v, Size %d, Form % x, wanted % x", r, Valid(r), Size(r), Form(r), want)
		}
	})
}

// 1.1: each form is memory of its own.
func TestFormIsNew(t *testing.T) {
	for _, r := range []rune{0x61, 0x301, 0x20ac, 0x1f600} {
		a, b := Form(r), Form(r)
		want := bytes.Clone(b)
		clear(a)
		if !bytes.Equal(b, want) || !bytes.Equal(Form(r), want) {
			t.Errorf("%x: forms share memory", r)
		}
	}
}

// 1.2: forms stand one behind the other.
func TestPut(t *testing.T) {
	for _, x := range []struct {
		l    []rune
		want string
	}{
		{nil, ""},
		{[]rune{}, ""},
		{[]rune{0}, "\x00"},
		{[]rune{0x61, 0x20ac, 0x301}, "\x61\xe2\x82\xac\xcc\x81"},
		{[]rune{0x10ffff, 0x7f, 0xfffd, 0x80}, "\xf4\x8f\xbf\xbf\x7f\xef\xbf\xbd\xc2\x80"},
	} {
		if got, err := Put(x.l...); err != nil || string(got) != x.want {
			t.Errorf("Put(%x): % x, %v", x.l, got, err)
		}
	}
}

// 1.2: many numbers at once are what they are one by one.
func TestPutEveryScalar(t *testing.T) {
	var l []rune
	var want []byte
	everyNumber(func(r rune) {
		if isScalar(r) {
			l = append(l, r)
			want = utf8.AppendRune(want, r)
		}
	})
	if got, err := Put(l...); err != nil || !bytes.Equal(got, want) {
		t.Error("Put of all scalar values is not all forms", err)
	}
}

// 1.2 and P1: the first number that is no scalar value is told, and no bytes beside it.
func TestPutRefuses(t *testing.T) {
	for _, x := range []struct {
		l  []rune
		at int
	}{
		{[]rune{-1}, 0},
		{[]rune{0x61, 0xd800}, 1},
		{[]rune{0x61, 0x62, 0xdfff, 0x63}, 2},
		{[]rune{0x110000, 0x61, 0xd800}, 0},
		{[]rune{0x61, math.MinInt32, math.MaxInt32}, 1},
		{[]rune{0xd7ff, 0xe000, 0x10ffff, 0xdbff}, 3},
	} {
		got, err := Put(x.l...)
		if len(got) != 0 || api.Code(err) != 1 || api.At(err) != x.at || api.Within(err) != -1 {
			t.Errorf("Put(%x): % x, %v at %d", x.l, got, err, api.At(err))
		}
		var f *api.Fault
		if !errors.As(err, &f) || !errors.Is(f.Err, api.ErrScalar) {
			t.Errorf("Put(%x): %v is no fault of ErrScalar", x.l, err)
		}
	}
}

// 1.2 and P1: by itself each number is put, or refused at 0.
func TestPutOne(t *testing.T) {
	for _, r := range edges() {
		got, err := Put(r)
		if isScalar(r) && (err != nil || string(got) != string(r)) {
			t.Errorf("Put(%x): % x, %v", r, got, err)
		}
		if !isScalar(r) && (len(got) != 0 || api.Code(err) != 1 || api.At(err) != 0) {
			t.Errorf("Put(%x): % x, %v", r, got, err)
		}
	}
}

// 1.2: what is no scalar value becomes Bad, all else stays.
func TestReplace(t *testing.T) {
	if got := Replace(); len(got) != 0 {
		t.Errorf("Replace(): %x", got)
	}
	for _, x := range []struct{ l, want []rune }{
		{[]rune{0x61}, []rune{0x61}},
		{[]rune{-1}, []rune{0xfffd}},
		{[]rune{0x61, 0xd800, 0x62, 0xdfff}, []rune{0x61, 0xfffd, 0x62, 0xfffd}},
		{[]rune{0x110000, 0xfffd, 0x10ffff}, []rune{0xfffd, 0xfffd, 0x10ffff}},
		{[]rune{0xd7ff, 0xe000, 0, math.MinInt32, math.MaxInt32}, []rune{0xd7ff, 0xe000, 0, 0xfffd, 0xfffd}},
	} {
		if got := Replace(x.l...); !slices.Equal(got, x.want) {
			t.Errorf("Replace(%x): %x", x.l, got)
		}
	}
	everyNumber(func(r rune) {
		want := rune(0xfffd)
		if isScalar(r) {
			want = r
		}
		if got := Replace(r); len(got) != 1 || got[0] != want {
			t.Fatalf("Replace(%x): %x", r, got)
		}
	})
}

// 1.2: a list that is handed in is not written into, nor shared, nor what lies behind its members.
func TestListsAreLeft(t *testing.T) {
	whole := []rune{0x61, 0xd800, 0x62, 0x63, -5}
	want := slices.Clone(whole)
	got := Replace(whole[:3]...)
	_, _ = Put(whole[:3]...)
	got[0] = 0x7a
	_ = append(got, 0x79)
	if !slices.Equal(whole, want) {
		t.Errorf("what was handed in became %x", whole)
	}
	whole[2] = 0x78
	if got[2] != 0x62 {
		t.Errorf("what was answered became %x", got)
	}
}

// 1.2: what was put before stays when more is put.
func TestPutIsNew(t *testing.T) {
	a, _ := Put(0x61, 0x20ac)
	b, _ := Put(0x62, 0x301)
	clear(b)
	_ = append(a, 0x7a)
	c, _ := Put(0x61, 0x20ac)
	if string(a) != "\x61\xe2\x82\xac" || string(c) != string(a) {
		t.Errorf("answers share memory: % x, % x", a, c)
	}
}

// 1.3: the lesser scalar value has the lesser form.
func TestFormsRise(t *testing.T) {
	last := Form(0)
	for r := rune(1); r <= api.MaxRune; r++ {
		if !isScalar(r) {
			continue
		}
		form := Form(r)
		if bytes.Compare(last, form) >= 0 {
			t.Fatalf("% x is not below % x, the form of %x", last, form, r)
		}
		last = form
	}
}
