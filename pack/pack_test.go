package pack_test

import (
	"bytes"
	"math"
	"strings"
	"testing"

	"bailey/api"
	"bailey/pack"
)

const greatest = math.MaxInt64

// forms are numbers, and their bytes; both sides of each step from one to nine bytes.
func forms() []struct {
	n int
	b string
} {
	return []struct {
		n int
		b string
	}{
		{0, "\x00"},
		{1, "\x01"},
		{127, "\x7f"},
		{128, "\x81\x00"},
		{129, "\x81\x01"},
		{300, "\x82\x2c"},
		{1<<14 - 1, "\xff\x7f"},
		{1 << 14, "\x81\x80\x00"},
		{1<<21 - 1, "\xff\xff\x7f"},
		{1 << 21, "\x81\x80\x80\x00"},
		{1<<28 - 1, "\xff\xff\xff\x7f"},
		{1 << 28, "\x81\x80\x80\x80\x00"},
		{1<<35 - 1, "\xff\xff\xff\xff\x7f"},
		{1 << 35, "\x81\x80\x80\x80\x80\x00"},
		{1<<42 - 1, "\xff\xff\xff\xff\xff\x7f"},
		{1 << 42, "\x81\x80\x80\x80\x80\x80\x00"},
		{1<<49 - 1, "\xff\xff\xff\xff\xff\xff\x7f"},
		{1 << 49, "\x81\x80\x80\x80\x80\x80\x80\x00"},
		{1<<56 - 1, "\xff\xff\xff\xff\xff\xff\xff\x7f"},
		{1 << 56, "\x81\x80\x80\x80\x80\x80\x80\x80\x00"},
		{1<<56 + 2, "\x81\x80\x80\x80\x80\x80\x80\x80\x02"},
		{greatest - 1, "\xff\xff\xff\xff\xff\xff\xff\xff\x7e"},
		{greatest, "\xff\xff\xff\xff\xff\xff\xff\xff\x7f"},
	}
}

// P2.1: a number's one form, and its size.
func TestNumForms(t *testing.T) {
	for _, f := range forms() {
		if got := pack.Num(nil, f.n); string(got) != f.b {
			t.Errorf("Num(nil, %d) = %x, want %x", f.n, got, f.b)
		}
		if got := pack.Num([]byte("xy"), f.n); string(got) != "xy"+f.b {
			t.Errorf("Num(xy, %d) = %x", f.n, got)
		}
		if got := pack.Size(f.n); got != len(f.b) {
			t.Errorf("Size(%d) = %d, want %d", f.n, got, len(f.b))
		}
	}
}

// P2.1: a number below 0 has the bytes of 0.
func TestNumBelowZero(t *testing.T) {
	for _, n := range []int{-1, -127, -128, -300, math.MinInt64, math.MinInt64 + 1} {
		if got := pack.Num([]byte{9}, n); string(got) != "\x09\x00" {
			t.Errorf("Num(%d) = %x", n, got)
		}
		if got := pack.Size(n); got != 1 {
			t.Errorf("Size(%d) = %d", n, got)
		}
	}
}

// P2.1: a text has its size ahead of it.
func TestTextForms(t *testing.T) {
	long := strings.Repeat("\x80", 128)
	rows := []struct{ before, s, want string }{
		{"", "", "\x00"},
		{"", "ab", "\x02ab"},
		{"x", "ab", "x\x02ab"},
		{"x", "", "x\x00"},
		{"", "\x00\xff", "\x02\x00\xff"},
		{"", long[:127], "\x7f" + long[:127]},
		{"", long, "\x81\x00" + long},
		{"xyz", long, "xyz\x81\x00" + long},
	}
	for _, r := range rows {
		if got := pack.Text([]byte(r.before), r.s); string(got) != r.want {
			t.Errorf("Text(%q, %q) = %x", r.before, r.s, got)
		}
	}
}

// P2.1: a yes is 1, a no is 0.
func TestYesForms(t *testing.T) {
	if got := pack.Yes(nil, true); string(got) != "\x01" {
		t.Errorf("%x", got)
	}
	if got := pack.Yes([]byte("x"), false); string(got) != "x\x00" {
		t.Errorf("%x", got)
	}
}

// P2.1, rule R3: b stays as it was, with what stands in its room, and shares nothing with the answer.
func TestWritersLeaveTheirBytes(t *testing.T) {
	writers := map[string]func(b []byte) []byte{
		"Num":        func(b []byte) []byte { return pack.Num(b, 300) },
		"Text":       func(b []byte) []byte { return pack.Text(b, "ab") },
		"Text empty": func(b []byte) []byte { return pack.Text(b, "") },
		"Yes":        func(b []byte) []byte { return pack.Yes(b, true) },
	}
	for name, write := range writers {
		room := []byte("abcdefgh")
		out := write(room[:2])
		for i := range out {
			out[i] = 'z'
		}
		for i := range out[:cap(out)] {
			out[:cap(out)][i] = 'z'
		}
		if string(room) != "abcdefgh" {
			t.Errorf("%s: %q", name, room)
		}
		first := write(room[:2])
		kept := bytes.Clone(first)
		room[0] = 'q'
		pack.Num(first, 1)
		pack.Text(first, "other")
		if !bytes.Equal(first, kept) {
			t.Errorf("%s: its answer was changed to %q", name, first)
		}
	}
}

// failed looks whether the reader has this error, nothing left, and answers zeros for good.
func failed(t *testing.T, what string, r *pack.Reader, e api.Errno) {
	t.Helper()
	if r.Err() != e || r.End() != e || r.Left() != 0 {
		t.Errorf("%s: Err %d, End %d, Left %d; want the error %d", what, r.Err(), r.End(), r.Left(), e)
	}
	if n, s, y := r.Num(greatest), r.Text(greatest), r.Yes(); n != 0 || s != "" || y {
		t.Errorf("%s: behind the error %d, %q, %t", what, n, s, y)
	}
	r.Fail(api.ErrDown)
	if r.Err() != e {
		t.Errorf("%s: the error became %d", what, r.Err())
	}
}

// P2.2: each form is read, up to the limit and no further.
func TestReadNum(t *testing.T) {
	for _, f := range forms() {
		for _, most := range []int{f.n, greatest} {
			r := pack.Open([]byte(f.b + "\x80z"))
			if n := r.Num(most); n != f.n || r.Err() != api.OK || r.Left() != 2 {
				t.Errorf("Num(%d) of %x = %d, Err %d, Left %d", most, f.b, n, r.Err(), r.Left())
			}
		}
		r := pack.Open([]byte(f.b + "z"))
		if n := r.Num(f.n - 1); n != 0 {
			t.Errorf("Num(%d) of %x = %d", f.n-1, f.b, n)
		}
		failed(t, "above most", r, api.ErrLong)
	}
	r := pack.Open([]byte{0})
	r.Num(math.MinInt64)
	failed(t, "0 above the lowest", r, api.ErrLong)
}

// P2.2: bytes that no number are, told in the order of the bytes.
func TestReadNumErrors(t *testing.T) {
	rows := []struct {
		b string
		e api.Errno
	}{
		{"", api.ErrShort},
		{"\x81", api.ErrShort},
		{"\xff", api.ErrShort},
		{"\x81\x80", api.ErrShort},
		{"\xff\xff\xff\xff\xff\xff\xff\xff", api.ErrShort},
		{"\x80", api.ErrForm},
		{"\x80\x00", api.ErrForm},
		{"\x80\x01", api.ErrForm},
		{"\x80\x80\x80\x80\x80\x80\x80\x80\x80\x80", api.ErrForm},
		{"\xff\xff\xff\xff\xff\xff\xff\xff\xff", api.ErrForm},
		{"\xff\xff\xff\xff\xff\xff\xff\xff\x80", api.ErrForm},
		{"\x81\x80\x80\x80\x80\x80\x80\x80\x80", api.ErrForm},
		{"\x81\x80\x80\x80\x80\x80\x80\x80\x80\x00", api.ErrForm},
		{"\xff\xff\xff\xff\xff\xff\xff\xff\xff\x7f", api.ErrForm},
		{strings.Repeat("\xff", 40), api.ErrForm},
	}
	for _, row := range rows {
		for _, most := range []int{-1, 0, greatest} {
			r := pack.Open([]byte(row.b))
			if n := r.Num(most); n != 0 {
				t.Errorf("Num of %x = %d", row.b, n)
			}
			failed(t, "Num", r, row.e)
		}
	}
}

// P2.2: a group that is 0, but not the first one, is as good as another one.
func TestReadNumEmptyGroupWithin(t *testing.T) {
	r := pack.Open([]byte{0x81, 0x80, 0x05})
	if n := r.Num(greatest); n != 1<<14+5 || r.End() != api.OK {
		t.Error(n, r.End())
	}
}

// P2.2: texts, their limit, and too few bytes.
func TestReadText(t *testing.T) {
	rows := []struct {
		b    string
		most int
		s    string
		e    api.Errno
		left int
	}{
		{"\x00", 0, "", api.OK, 0},
		{"\x00z", 5, "", api.OK, 1},
		{"\x02ab", 2, "ab", api.OK, 0},
		{"\x02abz", 2, "ab", api.OK, 1},
		{"\x02ab", 1, "", api.ErrLong, 0},
		{"\x02", 1, "", api.ErrLong, 0},
		{"\x02a", 2, "", api.ErrShort, 0},
		{"\x02", 2, "", api.ErrShort, 0},
		{"", 2, "", api.ErrShort, 0},
		{"\x00", -1, "", api.ErrLong, 0},
		{"\x80", 2, "", api.ErrForm, 0},
		{"\x80\x01a", 2, "", api.ErrForm, 0},
		{"\xff\xff\xff\xff\xff\xff\xff\xff\x7fab", greatest, "", api.ErrShort, 0},
		{"\x81\x00" + strings.Repeat("q", 128), 128, strings.Repeat("q", 128), api.OK, 0},
		{"\x81\x00" + strings.Repeat("q", 128), 127, "", api.ErrLong, 0},
		{"\x81\x00" + strings.Repeat("q", 127), 128, "", api.ErrShort, 0},
	}
	for _, row := range rows {
		r := pack.Open([]byte(row.b))
		if s := r.Text(row.most); s != row.s || r.Err() != row.e || r.Left() != row.left {
			t.Errorf("Text(%d) of %x = %q, Err %d, Left %d", row.most, row.b, s, r.Err(), r.Left())
		}
		if row.e != api.OK {
			failed(t, "Text", r, row.e)
		}
	}
}

// P2.2: of a byte only 0 and 1 are a no and a yes.
func TestReadYes(t *testing.T) {
	for c := range 256 {
		r := pack.Open([]byte{byte(c), 'z'})
		yes := r.Yes()
		if c > 1 {
			failed(t, "Yes", r, api.ErrForm)
		} else if r.Err() != api.OK || r.Left() != 1 {
			t.Errorf("Yes of %d: Err %d, Left %d", c, r.Err(), r.Left())
		}
		if yes != (c == 1) {
			t.Errorf("Yes of %d = %t", c, yes)
		}
	}
	r := pack.Open(nil)
	if r.Yes() {
		t.Error("Yes of nothing")
	}
	failed(t, "Yes", r, api.ErrShort)
}

// P2.2: the first error stays, whatever is wrong behind it.
func TestFirstErrorStays(t *testing.T) {
	r := pack.Open([]byte("\x05\x02\x80"))
	r.Num(4)
	r.Yes()
	r.Num(9)
	failed(t, "Num, Yes, Num", r, api.ErrLong)
	r = pack.Open([]byte("\x02\x05"))
	r.Yes()
	r.Num(1)
	failed(t, "Yes, Num", r, api.ErrForm)
	r = pack.Open([]byte("\x03ab"))
	r.Text(9)
	r.Fail(api.ErrForm)
	failed(t, "Text, Fail", r, api.ErrShort)
}

// P2.2: who reads may say what is wrong, once.
func TestFail(t *testing.T) {
	r := pack.Open([]byte{1, 2, 3})
	r.Fail(api.OK)
	if r.Err() != api.OK || r.Left() != 3 || r.Num(9) != 1 {
		t.Error("Fail(OK) did something")
	}
	r.Fail(api.ErrLog)
	r.Fail(api.OK)
	r.Fail(api.ErrArg)
	failed(t, "Fail", r, api.ErrLog)
	r = pack.Open(nil)
	r.Fail(api.ErrNone)
	failed(t, "Fail of no bytes", r, api.ErrNone)
}

// P2.2, rule R3: what is handed in may change behind Open, and stays as it was.
func TestOpenKeepsNothing(t *testing.T) {
	b := []byte("\x02ab\x01\x07")
	r := pack.Open(b)
	if s := r.Text(9); s != "ab" {
		t.Error(s)
	}
	if string(b) != "\x02ab\x01\x07" {
		t.Errorf("changed: %x", b)
	}
	clear(b)
	if !r.Yes() || r.Num(9) != 7 || r.End() != api.OK {
		t.Error("the reader reads the caller's bytes")
	}
}

// P2.2: two readers of the same bytes know nothing of one another.
func TestReadersAreApart(t *testing.T) {
	b := []byte{1, 2}
	one, other := pack.Open(b), pack.Open(b)
	one.Fail(api.ErrArg)
	if other.Num(9) != 1 || other.Left() != 1 || other.Err() != api.OK || one.Err() != api.ErrArg {
		t.Error("readers share their place")
	}
}

// P2.3: what is left, and the end, which is asked without being set.
func TestLeftAndEnd(t *testing.T) {
	r := pack.Open([]byte{1, 2, 3})
	for want := 3; want > 0; want-- {
		if r.Left() != want || r.Err() != api.OK || r.End() != api.ErrForm || r.Err() != api.OK || r.Left() != want {
			t.Errorf("of %d left: Left %d, Err %d, End %d", want, r.Left(), r.Err(), r.End())
		}
		r.Num(9)
	}
	if r.Left() != 0 || r.Err() != api.OK || r.End() != api.OK {
		t.Error("at the end", r.Left(), r.Err(), r.End())
	}
	for _, b := range [][]byte{nil, {}} {
		if r := pack.Open(b); r.Left() != 0 || r.Err() != api.OK || r.End() != api.OK {
			t.Error("of no bytes", r.Left(), r.Err(), r.End())
		}
	}
}

// P2.3, rule R5: a reader that no call made.
func TestReaderThatNoCallMade(t *testing.T) {
	for name, r := range map[string]*pack.Reader{"nil": nil, "zero": {}} {
		for range 2 {
			if n, s, y := r.Num(9), r.Text(9), r.Yes(); n != 0 || s != "" || y {
				t.Errorf("%s: %d, %q, %t", name, n, s, y)
			}
			if r.Left() != 0 || r.Err() != api.ErrNil || r.End() != api.ErrNil {
				t.Errorf("%s: Left %d, Err %d, End %d", name, r.Left(), r.Err(), r.End())
			}
			r.Fail(api.OK)
			r.Fail(api.ErrForm)
		}
	}
}

// P2.4: what was written is read, whatever stands behind it.
func TestWrittenIsRead(t *testing.T) {
	texts := []string{"", "a", "\x80\x00", strings.Repeat("x", 127), strings.Repeat("y", 128), strings.Repeat("\xff", 300)}
	tails := []string{"", "\x00", "\x80", "\xff\xff\xff\xff\xff\xff\xff\xff\xff\xff", "tail"}
	for _, tail := range tails {
		for _, f := range forms() {
			for _, s := range texts {
				b := pack.Yes(pack.Text(pack.Num(nil, f.n), s), len(s)%2 == 1)
				size := len(b)
				if size != pack.Size(f.n)+pack.Size(len(s))+len(s)+1 {
					t.Errorf("%d bytes of %d, %q", size, f.n, s)
				}
				r := pack.Open(append(b, tail...))
				if n, got, y := r.Num(f.n), r.Text(len(s)), r.Yes(); n != f.n || got != s || y != (len(s)%2 == 1) {
					t.Errorf("%d, %q was read as %d, %q, %t", f.n, s, n, got, y)
				}
				if r.Err() != api.OK || r.Left() != len(tail) {
					t.Errorf("Err %d, Left %d of %q", r.Err(), r.Left(), tail)
				}
			}
		}
	}
}

// hasItsBytes looks whether a number that is read of b has just the bytes it took.
func hasItsBytes(t *testing.T, b []byte) {
	r := pack.Open(b)
	n := r.Num(greatest)
	if r.Err() != api.OK {
		if n != 0 || r.Left() != 0 {
			t.Errorf("of %x: %d, Left %d, with the error %d", b, n, r.Left(), r.Err())
		}
		return
	}
	took := b[:len(b)-r.Left()]
	if n < 0 || !bytes.Equal(pack.Num(nil, n), took) || pack.Size(n) != len(took) {
		t.Errorf("%d was read of %x, its bytes are %x", n, took, pack.Num(nil, n))
	}
}

// P2.5: of all beginnings of two bytes, with each kind of byte behind them.
func TestNumHasTheBytesItTook(t *testing.T) {
	behind := []string{"", "\x00", "\x7f", "\x80", "\x80\x00", "\xff\x7f", "\x80\x80\x80\x80\x80\x80\x00", "\xff\xff\xff\xff\xff\xff\x7f", "\xff\xff\xff\xff\xff\xff\xff\x7f"}
	for first := range 256 {
		hasItsBytes(t, []byte{byte(first)})
		for second := range 256 {
			for _, s := range behind {
				hasItsBytes(t, append([]byte{byte(first), byte(second)}, s...))
			}
		}
	}
}

// P2.4, P2.5, rule R4: of any bytes, read the same way twice.
func FuzzReader(f *testing.F) {
	for _, row := range forms() {
		f.Add([]byte(row.b))
	}
	f.Add([]byte("\x02ab\x01"))
	f.Fuzz(func(t *testing.T, b []byte) {
		hasItsBytes(t, b)
		one, other := pack.Open(b), pack.Open(b)
		for one.Err() == api.OK && one.Left() > 0 {
			s, same := one.Text(1000), other.Text(1000)
			if s != same || one.Left() != other.Left() || one.Err() != other.Err() {
				t.Fatalf("%x was read in two ways", b)
			}
			if one.Err() == api.OK && !bytes.HasSuffix(b[:len(b)-one.Left()], pack.Text(nil, s)) {
				t.Fatalf("%q was read of other bytes than its own in %x", s, b)
			}
		}
	})
}
