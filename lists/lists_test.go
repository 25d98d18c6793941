package lists_test

import (
	"cmp"
	"math"
	"slices"
	"testing"

	"bailey/api"
	"bailey/lists"
	"bailey/pack"
)

func code(s string) []byte { return pack.Text(nil, s) }

func text(r *pack.Reader) string { return r.Text(3) }

func TestPut(t *testing.T) {
	for want, l := range map[string][]string{
		"\x00":                nil,
		"\x01\x00":            {""},
		"\x03\x01b\x00\x02aa": {"b", "", "aa"},
	} {
		if b := lists.Put([]byte("ahead"), l, code); string(b) != "ahead"+want {
			t.Errorf("%q: %x", l, b)
		}
	}
	room := append(make([]byte, 0, 64), "ahead"...)
	first := lists.Put(room, []string{"b"}, code)
	lists.Put(room, []string{"c", "d"}, code)
	if string(first) != "ahead\x01\x01b" || string(room[:64]) != "ahead"+string(make([]byte, 59)) {
		t.Errorf("%q, %q", first, room[:64])
	}
}

func TestNumbers(t *testing.T) {
	for want, l := range map[string][]int{
		"": nil, "\x00": {0}, "\x05\x00\x82\x2c\x05": {5, 0, 300, 5}, "\x00\x01": {-1, 1},
	} {
		if b := lists.Numbers([]byte("ahead"), l...); string(b) != "ahead"+want {
			t.Errorf("%v: %x", l, b)
		}
	}
	room := append(make([]byte, 0, 64), "ahead"...)
	first := lists.Numbers(room, 1, 2)
	lists.Numbers(room, 3, 4)
	if string(first) != "ahead\x01\x02" || string(room[:64]) != "ahead"+string(make([]byte, 59)) {
		t.Errorf("%q, %q", first, room[:64])
	}
}

func TestRead(t *testing.T) {
	for b, want := range map[string]struct {
		l []string
		e api.Errno
	}{
		"\x00":                 {nil, api.OK},
		"\x01\x01b":            {[]string{"b"}, api.OK},
		"\x02\x01b\x00":        {[]string{"b", ""}, api.OK},
		"\x02\x01b\x03abc":     {[]string{"b", "abc"}, api.OK},
		"\x03\x00\x00\x00":     {nil, api.ErrLong},
		"\x02\x01b\x04abcd":    {nil, api.ErrLong},
		"\x02\x04abcd\x80\x00": {nil, api.ErrLong},
		"\x02\x01b":            {nil, api.ErrShort},
		"\x02\x80\x01b":        {nil, api.ErrForm},
		"":                     {nil, api.ErrShort},
	} {
		r := pack.Open([]byte(b))
		if l := lists.Read(r, 2, text); !slices.Equal(l, want.l) || r.Err() != want.e || r.Left() != 0 {
			t.Errorf("%x: %q, %d, %d are left", b, l, r.Err(), r.Left())
		}
	}
	r := pack.Open([]byte("\x01\x01bmore"))
	if l := lists.Read(r, 2, text); len(l) != 1 || r.Left() != 4 {
		t.Errorf("%q, %d are left", l, r.Left())
	}
	if l := lists.Read(nil, 2, text); l != nil {
		t.Errorf("of no reader: %q", l)
	}
}

func TestCopy(t *testing.T) {
	l := [][]int{{1, 2}, nil, {3}}
	c := lists.Copy(l, slices.Clone[[]int])
	if len(c) != 3 || !slices.Equal(c[0], l[0]) || len(c[1]) != 0 || !slices.Equal(c[2], l[2]) {
		t.Errorf("%v", c)
	}
	c[0][0], c[2] = 9, nil
	if l[0][0] != 1 || l[2][0] != 3 {
		t.Errorf("%v", l)
	}
	if c := lists.Copy(nil, slices.Clone[[]int]); len(c) != 0 {
		t.Errorf("of none: %v", c)
	}
}

func TestRise(t *testing.T) {
	for _, l := range [][]int{nil, {5}, {-1, 0}, {1, 2, 9}} {
		if !lists.Rise(l, cmp.Compare) {
			t.Errorf("%v", l)
		}
	}
	for _, l := range [][]int{{1, 1}, {2, 1}, {1, 2, 2}, {1, 3, 2}, {3, 1, 2}} {
		if lists.Rise(l, cmp.Compare) {
			t.Errorf("%v", l)
		}
	}
}

func TestInsert(t *testing.T) {
	for _, x := range []struct{ l, want []int }{
		{nil, []int{5}}, {[]int{3}, []int{3, 5}}, {[]int{7}, []int{5, 7}}, {[]int{3, 7}, []int{3, 5, 7}},
		{[]int{5, 7}, []int{5, 5, 7}}, {[]int{1, 2, 3}, []int{1, 2, 3, 5}}, {[]int{6, 1, 7}, []int{5, 6, 1, 7}},
	} {
		l := append(make([]int, 0, 9), x.l...)
		got := lists.Insert(l, 5, func(n int) bool { return n > 5 })
		if !slices.Equal(got, x.want) || !slices.Equal(l[:9], append(slices.Clone(x.l), make([]int, 9-len(l))...)) {
			t.Errorf("%v: %v, %v", x.l, got, l[:9])
		}
		clear(l[:9])
		if !slices.Equal(got, x.want) {
			t.Errorf("%v is shared", x.want)
		}
	}
}

func TestWithin(t *testing.T) {
	for _, l := range [][]int{nil, {0}, {5}, {0, 5, 3}} {
		if !lists.Within(5, l...) {
			t.Errorf("%v", l)
		}
	}
	for _, l := range [][]int{{-1}, {6}, {0, 6}, {5, -1, 0}, {math.MaxInt}, {0, 0, math.MinInt}} {
		if lists.Within(5, l...) {
			t.Errorf("%v", l)
		}
	}
}

func TestFit(t *testing.T) {
	for _, l := range [][]int{nil, {0}, {5}, {2, 3}, {3, 2, 0}, {9, -4}, {-4, 9}, {-1}, {math.MinInt}, {math.MaxInt, math.MinInt}} {
		if !lists.Fit(5, l...) {
			t.Errorf("%v", l)
		}
	}
	for _, l := range [][]int{{6}, {3, 3}, {1, 2, 3}, {-4, 10}, {math.MaxInt}, {math.MaxInt, 1}, {math.MaxInt, math.MaxInt}, {math.MaxInt, 1, -9}, {math.MinInt, -1}} {
		if lists.Fit(5, l...) {
			t.Errorf("%v", l)
		}
	}
	if !lists.Fit(math.MaxInt, math.MaxInt-1, 1) || lists.Fit(math.MaxInt, math.MaxInt, 1) || lists.Fit(-1) {
		t.Error("at the limits")
	}
}
