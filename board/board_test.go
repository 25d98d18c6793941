package board_test

import (
	"bytes"
	"fmt"
	"maps"
	"math"
	"math/rand"
	"slices"
	"strings"
	"testing"

	"bailey/api"
	"bailey/board"
	"bailey/pack"
)

const (
	least    = math.MinInt
	greatest = math.MaxInt
	most     = api.MaxBytes
	bigCode  = "\xa0\x80\x80\x80\x80\x00" // 2^40
	overCode = "\xa0\x80\x80\x80\x80\x01" // one more
)

// of is a board whose lanes 1, 2 and so on have so many bytes.
func of(capacity int, bytes ...int) api.Board {
	b := api.Board{Capacity: capacity}
	for i, n := range bytes {
		b.Shares = append(b.Shares, api.Share{Lane: i + 1, Bytes: n})
	}
	return b
}

// with is a board of these shares.
func with(capacity int, l ...api.Share) api.Board { return api.Board{Capacity: capacity, Shares: l} }

// base is a board of which 40 bytes are left.
func base() api.Board { return with(100, api.Share{Lane: 2, Bytes: 50}, api.Share{Lane: 4, Bytes: 10}) }

// share is the command that gives the lane so many bytes.
func share(lane, bytes int) api.Command {
	return api.Command{Client: 3, Seq: 5, Kind: api.OpShare, ID: 7, Epoch: 2, Space: "a", Name: "b", Num: lane, Bytes: bytes, Time: 9}
}

// copied is b in memory of its own.
func copied(b api.Board) api.Board {
	b.Shares = slices.Clone(b.Shares)
	return b
}

// same holds a and b against each other without the package's own Same.
func same(a, b api.Board) bool {
	return fmt.Sprint(a) == fmt.Sprint(b) // nil lists are as empty ones
}

// told holds results against each other.
func told(a, b api.Result) bool { return fmt.Sprintf("%+v", a) == fmt.Sprintf("%+v", b) }

// goods are boards that may be, at the edges of what may be, and their bytes.
func goods() []struct {
	b    api.Board
	code string
} {
	return []struct {
		b    api.Board
		code string
	}{
		{api.Board{}, "\x00\x00"},
		{with(0, []api.Share{}...), "\x00\x00"},
		{of(1), "\x01\x00"},
		{of(most), bigCode + "\x00"},
		{of(most, most), bigCode + "\x01\x01" + bigCode},
		{of(1, 1), "\x01\x01\x01\x01"},
		{with(300, api.Share{Lane: 4, Bytes: 300}), "\x82\x2c\x01\x04\x82\x2c"},
		{base(), "\x64\x02\x02\x32\x04\x0a"},
		{of(10, 1, 2, 3, 4), "\x0a\x04\x01\x01\x02\x02\x03\x03\x04\x04"},
		{of(9, 2, 3, 4), "\x09\x03\x01\x02\x02\x03\x03\x04"},
		{with(7, api.Share{Lane: 1, Bytes: 4}, api.Share{Lane: 3, Bytes: 3}), "\x07\x02\x01\x04\x03\x03"},
		{of(most, most-3, 1, 1, 1), bigCode + "\x04\x01\x9f\xff\xff\xff\xff\x7d\x02\x01\x03\x01\x04\x01"},
		{of(most, most-1, 1), bigCode + "\x02\x01\x9f\xff\xff\xff\xff\x7f\x02\x01"},
	}
}

// wrongs are boards of which one thing may not be, and what Read says of their
// bytes.
func wrongs() []struct {
	b api.Board
	e api.Errno
} {
	return []struct {
		b api.Board
		e api.Errno
	}{
		{of(most + 1), api.ErrLong}, {of(greatest), api.ErrLong}, {of(greatest, 5), api.ErrLong},
		{with(9, api.Share{Lane: 0, Bytes: 1}), api.ErrForm}, {with(9, api.Share{Lane: -1, Bytes: 1}), api.ErrForm}, {with(9, api.Share{Lane: least, Bytes: 1}), api.ErrForm},
		{with(9, api.Share{Lane: 5, Bytes: 1}), api.ErrLong}, {with(9, api.Share{Lane: greatest, Bytes: 1}), api.ErrLong},
		{with(9, api.Share{Lane: 2, Bytes: 1}, api.Share{Lane: 2, Bytes: 1}), api.ErrForm},
		{with(9, api.Share{Lane: 3, Bytes: 1}, api.Share{Lane: 2, Bytes: 1}), api.ErrForm},
		{with(9, api.Share{Lane: 1, Bytes: 1}, api.Share{Lane: 4, Bytes: 1}, api.Share{Lane: 4, Bytes: 1}), api.ErrForm},
		{with(9, api.Share{Lane: 1, Bytes: 1}, api.Share{Lane: 4, Bytes: 1}, api.Share{Lane: 3, Bytes: 1}), api.ErrForm},
		{with(9, api.Share{Lane: 0, Bytes: 1}, api.Share{Lane: 1, Bytes: 1}), api.ErrForm},
		{of(9, 0), api.ErrForm}, {of(9, -1), api.ErrForm}, {of(9, least), api.ErrForm}, {of(9, 3, 0, 3), api.ErrForm}, {of(9, 3, 3, -1), api.ErrForm},
		{of(most, most+1), api.ErrLong}, {of(most, greatest), api.ErrLong}, {of(most, 1, most+1), api.ErrLong},
		{of(0, 1), api.ErrForm}, {of(9, 10), api.ErrForm}, {of(9, 4, 6), api.ErrForm}, {of(9, 1, 2, 3, 4), api.ErrForm}, {of(most-1, most), api.ErrForm},
		{of(most, most, 1), api.ErrForm}, {of(most, most, most, most, most), api.ErrForm},
		{of(most, greatest, greatest), api.ErrLong}, {of(most, greatest, greatest, 2), api.ErrLong}, {of(most, greatest, 1), api.ErrLong},
		{of(most, 1, 1, 1, 1, 1), api.ErrLong}, {with(9, make([]api.Share, 1000)...), api.ErrLong},
		{with(9, api.Share{Lane: 0, Bytes: 1}, api.Share{Lane: 1, Bytes: 1}, api.Share{Lane: 2, Bytes: 1}, api.Share{Lane: 3, Bytes: 1}, api.Share{Lane: 4, Bytes: 1}), api.ErrLong},
	}
}

// P25.1: what there is ahead of all.
func TestStart(t *testing.T) {
	for capacity, held := range map[int]int{least: 0, -1: 0, 0: 0, 1: 1, 10: 10, most - 1: most - 1, most: most, most + 1: most, greatest: most} {
		if b := board.Start(capacity); !same(b, of(held)) || !board.Check(b) {
			t.Errorf("%d: %+v", capacity, b)
		}
	}
}

// P25.1: which may be.
func TestCheck(t *testing.T) {
	for _, g := range goods() {
		if !board.Check(g.b) {
			t.Errorf("%+v", g.b)
		}
	}
	for _, w := range wrongs() {
		if board.Check(w.b) {
			t.Errorf("%+v", w.b)
		}
	}
	for _, n := range []int{-1, least} { // whose bytes are those of 0
		if board.Check(of(n)) || board.Check(of(n, 1)) {
			t.Errorf("Capacity %d", n)
		}
	}
}

// P25.1: of whatever board.
func TestTotal(t *testing.T) {
	for _, x := range []struct {
		b    api.Board
		want int
	}{
		{api.Board{}, 0}, {of(9), 0}, {of(9, 4), 4}, {base(), 60}, {of(10, 1, 2, 3, 4), 10}, {of(most, most), most},
		{of(9, 10), 10}, {of(-1, 10), 10}, {of(9, 0, 0), 0}, {of(9, 1, 2, 3, 4, 5), 15}, {of(most, most, most, most, most, most), 5 * most},
		{with(9, api.Share{Lane: 9, Bytes: 4}, api.Share{Lane: -3, Bytes: 3}, api.Share{Lane: 9, Bytes: 2}), 9},
		{of(9, greatest), greatest}, {of(9, greatest-5, 5), greatest}, {of(9, greatest, 0), greatest},
		{of(9, greatest, 1), 0}, {of(9, 1, greatest), 0}, {of(9, greatest, greatest), 0}, {of(9, greatest, greatest, 2), 0}, {of(9, greatest-5, 6, 7), 0},
		{of(9, -1), 0}, {of(9, -1, 5), 0}, {of(9, 5, -1), 0}, {of(9, 5, least, 5), 0}, {of(9, greatest, 1, -1), 0}, {of(9, greatest, -1), 0}, {of(9, least, least), 0},
	} {
		if n := board.Total(x.b); n != x.want {
			t.Errorf("%+v: %d", x.b, n)
		}
	}
}

// gives looks whether x gives its lane its bytes, in b, so that it is want.
func gives(t *testing.T, what string, b api.Board, x api.Command, want api.Board, total int) {
	t.Helper()
	kept := copied(b)
	got, r := board.Apply(b, x)
	if !same(got, want) || !told(r, api.Result{Num: total, Bytes: x.Bytes}) {
		t.Errorf("%s: %+v, %+v, not %+v", what, got, r, want)
	}
	if board.Check(b) && !board.Check(got) {
		t.Errorf("%s: %+v may not be", what, got)
	}
	if !same(b, kept) {
		t.Errorf("%s: it was changed: %+v", what, b)
	}
}

// P25.2: a lane has its bytes, and stands in its place.
func TestApply(t *testing.T) {
	two, four := api.Share{Lane: 2, Bytes: 50}, api.Share{Lane: 4, Bytes: 10}
	gives(t, "the first one", of(10), share(3, 6), with(10, api.Share{Lane: 3, Bytes: 6}), 6)
	gives(t, "ahead of all", base(), share(1, 7), with(100, api.Share{Lane: 1, Bytes: 7}, two, four), 67)
	gives(t, "between", base(), share(3, 8), with(100, two, api.Share{Lane: 3, Bytes: 8}, four), 68)
	gives(t, "behind all", of(9, 2, 3), share(4, 4), with(9, api.Share{Lane: 1, Bytes: 2}, api.Share{Lane: 2, Bytes: 3}, api.Share{Lane: 4, Bytes: 4}), 9)
	gives(t, "another one, more", base(), share(2, 60), with(100, api.Share{Lane: 2, Bytes: 60}, four), 70)
	gives(t, "another one, less", base(), share(4, 1), with(100, two, api.Share{Lane: 4, Bytes: 1}), 51)
	gives(t, "the same one", base(), share(4, 10), base(), 60)
	gives(t, "all that is left", base(), share(1, 40), with(100, api.Share{Lane: 1, Bytes: 40}, two, four), 100)
	gives(t, "all that is left, of one that has some", base(), share(2, 90), with(100, api.Share{Lane: 2, Bytes: 90}, four), 100)
	gives(t, "all", of(most), share(1, most), of(most, most), most)
	gives(t, "the fourth one", of(20, 2, 3, 4), share(4, 5), of(20, 2, 3, 4, 5), 14)
	gives(t, "one of four", of(10, 1, 2, 3, 4), share(2, 1), of(10, 1, 1, 3, 4), 9)
}

// P25.2: a lane that gets nothing has no share.
func TestApplyNone(t *testing.T) {
	gives(t, "the first one", base(), share(2, 0), with(100, api.Share{Lane: 4, Bytes: 10}), 10)
	gives(t, "the last one", base(), share(4, 0), with(100, api.Share{Lane: 2, Bytes: 50}), 50)
	gives(t, "the only one", of(9, 4), share(1, 0), of(9), 0)
	for _, lane := range []int{1, 3} {
		gives(t, "of a lane that has none", base(), share(lane, 0), base(), 60)
	}
	gives(t, "of nothing", of(0), share(1, 0), of(0), 0)
	full := of(10, 1, 2, 3, 4)
	for lane, total := range map[int]int{1: 9, 2: 8, 3: 7, 4: 6} {
		gives(t, "one of four", full, share(lane, 0), with(10, slices.Delete(copied(full).Shares, lane-1, lane)...), total)
	}
}

// refused looks whether x is refused: b is as it is.
func refused(t *testing.T, what string, b api.Board, x api.Command, e api.Errno) {
	t.Helper()
	kept := copied(b)
	if got, r := board.Apply(b, x); !same(got, kept) || !told(r, api.Result{Code: e}) || !same(b, kept) {
		t.Errorf("%s: %+v, %+v, not %d", what, got, r, e)
	}
}

// P25.2: what is no share, of whatever board, ahead of all else.
func TestApplyArg(t *testing.T) {
	for _, b := range []api.Board{base(), of(0), of(most), of(10, 1, 2, 3, 4), of(-1), of(5, 9, 9)} {
		for _, lane := range []int{least, -1, 0, 5, 6, api.MaxNum, greatest} {
			for _, n := range []int{-1, 0, 5, 1000, most, most + 1} {
				refused(t, fmt.Sprintf("lane %d, %d bytes", lane, n), b, share(lane, n), api.ErrArg)
			}
		}
		for lane := range 6 {
			for _, n := range []int{least, -1, most + 1, greatest} {
				refused(t, fmt.Sprintf("lane %d, %d bytes", lane, n), b, share(lane, n), api.ErrArg)
			}
		}
		for _, kind := range []int{least, -1, 0, 1, 2, 3, 4, 5, 6, 7, 8, 9, 10, 12, 13, 14, 15, 16, 17, 18, greatest} {
			for _, n := range []int{0, 5, 1000} {
				x := share(2, n)
				x.Kind = kind
				refused(t, fmt.Sprintf("kind %d", kind), b, x, api.ErrArg)
			}
		}
	}
	gives(t, "a command that has nothing else", of(5), api.Command{Kind: api.OpShare, Num: 1, Bytes: 5}, of(5, 5), 5)
}

// P25.2: more than there is.
func TestApplyQuota(t *testing.T) {
	for lane, n := range map[int]int{1: 41, 2: 91, 3: 41, 4: 51} {
		for _, more := range []int{0, 1, 500, most - n} {
			refused(t, fmt.Sprintf("lane %d, %d bytes", lane, n+more), base(), share(lane, n+more), api.ErrQuota)
		}
	}
	refused(t, "of nothing", of(0), share(1, 1), api.ErrQuota)
	refused(t, "all, where one has some", of(most, 1), share(2, most), api.ErrQuota)
	refused(t, "one more", of(most, most), share(2, 1), api.ErrQuota)
	gives(t, "all, of who has all", of(most, most), share(1, most), of(most, most), most)
}

// P25.2: of boards that may not be, too.
func TestApplyWild(t *testing.T) {
	refused(t, "below nothing", of(-1), share(1, 0), api.ErrQuota)
	refused(t, "others have too much", of(5, 3, 9), share(1, 0), api.ErrQuota)
	refused(t, "others leave the range", of(greatest, 1, greatest, 1), share(1, 1), api.ErrQuota)
	refused(t, "it leaves the range with others", of(greatest, 1, greatest), share(1, 1), api.ErrQuota)
	refused(t, "a lane that there is not has all", with(5, api.Share{Lane: 9, Bytes: 5}), share(1, 1), api.ErrQuota)
	gives(t, "it had too much", of(5, 9, 3), share(1, 2), of(5, 2, 3), 5)
	gives(t, "it had more than any", of(5, greatest, 3), share(1, 2), of(5, 2, 3), 5)
	gives(t, "it had less than nothing", of(5, -9, 3), share(1, 2), of(5, 2, 3), 5)
	gives(t, "it had it twice", with(5, api.Share{Lane: 2, Bytes: 4}, api.Share{Lane: 2, Bytes: 4}, api.Share{Lane: 3, Bytes: 1}), share(2, 4), with(5, api.Share{Lane: 2, Bytes: 4}, api.Share{Lane: 3, Bytes: 1}), 5)
	gives(t, "five have some", of(9, 1, 1, 1, 1, 1), share(4, 2), of(9, 1, 1, 1, 2, 1), 6)
}

// P25.2: what is read, whatever the board is.
func TestQuery(t *testing.T) {
	for _, x := range []struct {
		b           api.Board
		num, shared int
	}{
		{base(), 100, 60}, {of(0), 0, 0}, {of(most, most), most, most}, {of(10, 1, 2, 3, 4), 10, 10}, {of(9), 9, 0},
		{of(5, 9), 5, 9}, {of(-1, -1), -1, 0}, {of(5, greatest, 1), 5, 0},
	} {
		kept := copied(x.b)
		for kind := -1; kind < 20; kind++ {
			want := api.Result{Code: api.ErrArg}
			if kind == api.OpTotal {
				want = api.Result{Num: x.num, Bytes: x.shared}
			}
			ask := share(2, 7)
			ask.Kind = kind
			if r := board.Query(x.b, ask); !told(r, want) {
				t.Errorf("%+v, kind %d: %+v", x.b, kind, r)
			}
		}
		for _, ask := range []api.Command{{Kind: api.OpTotal}, {Kind: api.OpTotal, Num: -5, Bytes: least, Client: 99}} {
			if r := board.Query(x.b, ask); !told(r, api.Result{Num: x.num, Bytes: x.shared}) {
				t.Errorf("%+v: %+v", x.b, r)
			}
		}
		for _, kind := range []int{least, greatest} {
			if r := board.Query(x.b, api.Command{Kind: kind}); !told(r, api.Result{Code: api.ErrArg}) {
				t.Errorf("%+v, kind %d: %+v", x.b, kind, r)
			}
		}
		if !same(x.b, kept) {
			t.Errorf("it was changed: %+v", x.b)
		}
	}
}

// P25.3: what was written is read, whatever stands behind it.
func TestPutRead(t *testing.T) {
	for _, g := range goods() {
		if code := board.Put([]byte("ahead"), g.b); string(code) != "ahead"+g.code {
			t.Errorf("%+v: %x", g.b, code)
		}
		for _, more := range []string{"", "\x00", "more"} {
			r := pack.Open([]byte(g.code + more))
			if b := board.Read(r); !same(b, g.b) || r.Err() != api.OK || r.Left() != len(more) {
				t.Errorf("%x: %+v, %d, %d are left", g.code, b, r.Err(), r.Left())
			}
		}
	}
	if code := board.Put(nil, of(-5, -1)); string(code) != "\x00\x01\x01\x00" {
		t.Errorf("below 0: %x", code)
	}
}

// reads looks whether Read refuses the bytes.
func reads(t *testing.T, what, code string, e api.Errno) {
	t.Helper()
	r := pack.Open([]byte(code))
	if b := board.Read(r); !same(b, api.Board{}) || r.Err() != e || r.Left() != 0 {
		t.Errorf("%s: %+v, %d, not %d, %d are left", what, b, r.Err(), e, r.Left())
	}
}

// P25.3: bytes that end too early, at each place.
func TestReadShort(t *testing.T) {
	for _, g := range goods() {
		for end := range g.code {
			reads(t, fmt.Sprintf("the first %d bytes of %x", end, g.code), g.code[:end], api.ErrShort)
		}
	}
}

// P25.3: boards that may not be, and each field beyond its limit.
func TestReadWrong(t *testing.T) {
	for _, w := range wrongs() {
		reads(t, fmt.Sprintf("%+v", w.b), string(board.Put(nil, w.b)), w.e)
		reads(t, fmt.Sprintf("%+v and more", w.b), string(board.Put(nil, w.b))+"more", w.e)
	}
	for code, e := range map[string]api.Errno{
		overCode + "\x00": api.ErrLong, "\x80\x05\x00": api.ErrForm, strings.Repeat("\xff", 9): api.ErrForm,
		"\x09\x05": api.ErrLong, "\x09\x81\x00": api.ErrLong, "\x09\x80\x00": api.ErrForm,
		"\x09\x01\x05": api.ErrLong, "\x09\x01\x80\x01\x01": api.ErrForm, "\x09\x02\x01\x01\x05\x01": api.ErrLong,
		"\x09\x01\x01" + overCode: api.ErrLong, "\x09\x01\x01\x80\x01": api.ErrForm,
		"\x09\x01\x00\x01": api.ErrForm, "\x09\x01\x01\x00": api.ErrForm, "\x09\x01\x01\x0a": api.ErrForm,
		"\x09\x02\x00\x01\x05\x01": api.ErrLong, "\x09\x02\x00\x01\x02": api.ErrShort, // what may not be is told behind these
	} {
		reads(t, fmt.Sprintf("%x", code), code, e)
	}
}

// R7: an error ahead stays; of no reader nothing is read.
func TestReadBehind(t *testing.T) {
	r := pack.Open([]byte("\x09\x01\x01\x05"))
	r.Fail(api.ErrSum)
	if b := board.Read(r); !same(b, api.Board{}) || r.Err() != api.ErrSum {
		t.Errorf("%+v, %d", b, r.Err())
	}
	for _, r := range []*pack.Reader{nil, {}} {
		if b := board.Read(r); !same(b, api.Board{}) || r.Err() != api.ErrNil {
			t.Errorf("%+v, %d", b, r.Err())
		}
	}
}

// P25.3: field by field, of boards that may not be, too.
func TestSame(t *testing.T) {
	all := []api.Board{
		{}, of(1), of(-1), base(), of(9, 5), of(9, 4), of(8, 5), of(9, 5, 1), of(9, 5, 1, 1), with(9, api.Share{Lane: 2, Bytes: 5}),
		with(9, api.Share{Lane: 2, Bytes: 1}, api.Share{Lane: 1, Bytes: 5}), with(100, api.Share{Lane: 2, Bytes: 10}, api.Share{Lane: 4, Bytes: 50}), with(9, api.Share{Lane: 5, Bytes: 9}),
	}
	for i, a := range all {
		for j, b := range all {
			if board.Same(a, copied(b)) != (i == j) {
				t.Errorf("%+v and %+v", a, b)
			}
		}
	}
	if !board.Same(with(9, []api.Share{}...), of(9)) || !board.Same(of(9), with(9, make([]api.Share, 0, 5)...)) {
		t.Error("nil lists and empty ones are not the same")
	}
}

// Rule R3: nothing that is handed in is changed or kept; what is answered may be changed.
func TestNothingShared(t *testing.T) {
	for _, x := range []api.Command{share(1, 7), share(2, 60), share(3, 8), share(2, 0), share(4, 0), share(1, 0), share(1, 500), share(5, 1), {}} {
		b := base()
		b.Shares = append(make([]api.Share, 0, 9), b.Shares...)
		got, _ := board.Apply(b, x)
		again, _ := board.Apply(b, x)
		clear(again.Shares[:cap(again.Shares)])
		if !same(b, base()) || b.Shares[:3][2] != (api.Share{}) {
			t.Errorf("%+v: it was changed: %+v", x, b.Shares[:3])
		}
		want := copied(got)
		clear(b.Shares[:9])
		if !same(got, want) {
			t.Errorf("%+v: it is shared: %+v", x, got)
		}
	}
	room := append(make([]byte, 0, 99), "ahead"...)
	first := board.Put(room, base())
	second := board.Put(room, of(5))
	if string(room[:99]) != "ahead"+string(make([]byte, 94)) || string(first) != "ahead\x64\x02\x02\x32\x04\x0a" || string(second) != "ahead\x05\x00" {
		t.Errorf("Put's are shared: %x, %x", first, second)
	}
	one, other := board.Read(pack.Open(first[5:])), board.Read(pack.Open(first[5:]))
	clear(first)
	clear(one.Shares[:cap(one.Shares)])
	if !same(other, base()) {
		t.Errorf("Read's are shared: %+v", other)
	}
}

// P25.4: never is more given than there is, whatever is asked; the board is as
// a map of lanes.
func TestPlay(t *testing.T) {
	seen := map[api.Errno]int{}
	for seed := range 200 {
		r := rand.New(rand.NewSource(int64(seed)))
		capacity := []int{0, 1, 20, 100, most - 1, most}[seed%6]
		b, lanes := board.Start(capacity), map[int]int{}
		for range 60 {
			x := share(r.Intn(7)-1, r.Intn(min(capacity, most-1)+2)/(1+r.Intn(4))-r.Intn(20)/19)
			if r.Intn(15) == 0 {
				x.Kind = r.Intn(19)
			}
			want := api.Result{Bytes: x.Bytes}
			others := 0
			for lane, n := range lanes {
				if lane != x.Num {
					others += n
				}
			}
			switch {
			case x.Kind != 11 || x.Num < 1 || x.Num > 4 || x.Bytes < 0 || x.Bytes > most:
				want = api.Result{Code: api.ErrArg}
			case others+x.Bytes > capacity:
				want = api.Result{Code: api.ErrQuota}
			default:
				want.Num = others + x.Bytes
				if lanes[x.Num] = x.Bytes; x.Bytes == 0 {
					delete(lanes, x.Num)
				}
			}
			var got api.Result
			b, got = board.Apply(b, x)
			model := of(capacity)
			for _, lane := range slices.Sorted(maps.Keys(lanes)) {
				model.Shares = append(model.Shares, api.Share{Lane: lane, Bytes: lanes[lane]})
			}
			if !told(got, want) || !same(b, model) || !board.Same(b, model) || !board.Check(b) || board.Total(b) > capacity {
				t.Fatalf("%+v: %+v, %+v, not %+v, %+v", x, b, got, model, want)
			}
			back := pack.Open(board.Put(nil, b))
			if c := board.Read(back); !same(c, b) || back.End() != api.OK {
				t.Fatalf("%+v is read as %+v", b, c)
			}
			seen[got.Code]++
		}
	}
	if seen[api.OK] < 1000 || seen[api.ErrArg] < 500 || seen[api.ErrQuota] < 500 {
		t.Errorf("%v", seen)
	}
}

// The chapter's example.
func TestExample(t *testing.T) {
	b, _ := board.Apply(board.Start(10), api.Command{Kind: api.OpShare, Num: 1, Bytes: 6})
	if _, r := board.Apply(b, api.Command{Kind: api.OpShare, Num: 2, Bytes: 5}); r.Code != api.ErrQuota {
		t.Error(r)
	}
}

// P25.3: any bytes: what is taken may be, and has just those bytes.
func FuzzRead(f *testing.F) {
	for _, g := range goods() {
		f.Add([]byte(g.code))
	}
	for _, w := range wrongs() {
		f.Add(board.Put(nil, w.b))
	}
	f.Fuzz(func(t *testing.T, code []byte) {
		r := pack.Open(code)
		b := board.Read(r)
		if e := r.Err(); e != api.OK {
			if !same(b, api.Board{}) || e != api.ErrShort && e != api.ErrForm && e != api.ErrLong {
				t.Errorf("%x: %+v, %d", code, b, e)
			}
			return
		}
		if taken := code[:len(code)-r.Left()]; !board.Check(b) || !bytes.Equal(board.Put(nil, b), taken) {
			t.Errorf("%x: %+v", code, b)
		}
	})
}
