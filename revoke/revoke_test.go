package revoke_test

import (
	"math"
	"math/rand"
	"slices"
	"testing"

	"bailey/api"
	"bailey/pack"
	"bailey/revoke"
)

const (
	least    = math.MinInt
	greatest = math.MaxInt
	most     = api.MaxNum
)

// revoked is one of these; ids are as many as there are.
func revoked(epoch, next int, ids ...int) api.Revoked {
	return api.Revoked{Epoch: epoch, Next: next, IDs: ids}
}

// upTo are the ids from one to the other.
func upTo(from, to int) []int {
	var l []int
	for id := from; id <= to; id++ {
		l = append(l, id)
	}
	return l
}

// evens are so many even ids, from 2 on.
func evens(n int) []int {
	var l []int
	for i := range n {
		l = append(l, 2*i+2)
	}
	return l
}

// copied is r in memory of its own.
func copied(r api.Revoked) api.Revoked {
	r.IDs = slices.Clone(r.IDs)
	return r
}

// same holds a and b against each other without the package's own Same.
func same(a, b api.Revoked) bool {
	return a.Epoch == b.Epoch && a.Next == b.Next && slices.Equal(a.IDs, b.IDs)
}

// goods are such that may be, at the edges of what may be, and their bytes.
func goods() []struct {
	r api.Revoked
	b string
} {
	num, below := "\x88\x80\x80\x80\x00", "\x87\xff\xff\xff\x7f" // 2^31 and one less
	return []struct {
		r api.Revoked
		b string
	}{
		{revoked(0, 2), "\x00\x02\x00"},
		{api.Revoked{Next: 2, IDs: []int{}}, "\x00\x02\x00"},
		{revoked(0, 2, 1), "\x00\x02\x01\x01"},
		{revoked(1, 3, 1, 2), "\x01\x03\x02\x01\x02"},
		{revoked(127, 128, 1, 127), "\x7f\x81\x00\x02\x01\x7f"},
		{revoked(300, 301, 299, 300), "\x82\x2c\x82\x2d\x02\x82\x2b\x82\x2c"},
		{revoked(most, most), num + num + "\x00"},
		{revoked(most, most, 1, most-1), num + num + "\x02\x01" + below},
		{revoked(most-1, most-1, most-2), below + below + "\x01\x87\xff\xff\xff\x7e"},
		{revoked(0, 16, upTo(1, 15)...), "\x00\x10\x0f\x01\x02\x03\x04\x05\x06\x07\x08\x09\x0a\x0b\x0c\x0d\x0e\x0f"},
		{revoked(0, 17, upTo(1, 16)...), "\x00\x11\x10\x01\x02\x03\x04\x05\x06\x07\x08\x09\x0a\x0b\x0c\x0d\x0e\x0f\x10"},
		{revoked(4, 100, evens(16)...), "\x04\x64\x10\x02\x04\x06\x08\x0a\x0c\x0e\x10\x12\x14\x16\x18\x1a\x1c\x1e\x20"},
	}
}

// wrongs are such of which one thing may not be.
func wrongs() []api.Revoked {
	l := []api.Revoked{
		{},
		revoked(-1, 2), revoked(least, 2), revoked(most+1, 2), revoked(greatest, 2),
		revoked(0, least), revoked(0, -1), revoked(0, 0), revoked(0, 1), revoked(0, most+1), revoked(0, greatest),
		revoked(0, 18, upTo(1, 17)...), revoked(0, 100, evens(17)...), revoked(0, 2000, upTo(1, 1000)...),
		revoked(0, 2, 2), revoked(0, 2, 0), revoked(0, 2, 1, 2), revoked(0, 1, 1), revoked(0, 1, 0), revoked(0, most, most), revoked(0, most+1, most),
	}
	for _, ids := range [][]int{
		{0}, {-1}, {least}, {greatest}, {10}, {11}, {most},
		{0, 1}, {-5, 1, 9}, {1, 10}, {1, 2, 10}, {greatest, 1}, {greatest, least}, {1, greatest},
		{1, 1}, {9, 9}, {1, 2, 2}, {1, 1, 2}, {3, 3, 3},
		{2, 1}, {9, 1}, {1, 3, 2}, {2, 1, 3}, {3, 2, 1}, {1, 9, 8},
	} {
		l = append(l, revoked(3, 10, ids...))
	}
	return l
}

// P21.1: which may be.
func TestCheck(t *testing.T) {
	for _, g := range goods() {
		if !revoke.Check(g.r) {
			t.Errorf("%+v", g.r)
		}
	}
	for _, r := range wrongs() {
		if revoke.Check(r) {
			t.Errorf("%+v", r)
		}
	}
	for _, ids := range [][]int{nil, {1}, {9}, {1, 9}, {1, 2, 3, 4, 5, 6, 7, 8, 9}} {
		if !revoke.Check(revoked(3, 10, ids...)) {
			t.Errorf("%v", ids)
		}
	}
}

// P21.1: what holds ahead of all: the first token alone.
func TestStart(t *testing.T) {
	r := revoke.Start()
	if r.Epoch != 0 || r.Next != 2 || len(r.IDs) != 0 || !revoke.Check(r) {
		t.Errorf("%+v", r)
	}
	for _, id := range []int{least, -1, 0, 1, 2, 3, greatest} {
		for _, epoch := range []int{least, -1, 0, 1, greatest} {
			if revoke.Valid(r, id, epoch) != (id == 1 && epoch == 0) {
				t.Errorf("%d of %d", id, epoch)
			}
		}
	}
}

// P21.1: which ids hold, of which epoch.
func TestValid(t *testing.T) {
	r := revoked(5, 10, 1, 4, 6, 9)
	holds := []int{2, 3, 5, 7, 8}
	for id := -2; id < 14; id++ {
		for _, epoch := range []int{least, -5, 0, 4, 5, 6, most, greatest} {
			if revoke.Valid(r, id, epoch) != (epoch == 5 && slices.Contains(holds, id)) {
				t.Errorf("%d of %d", id, epoch)
			}
		}
	}
	for _, id := range []int{least, least + 1, most - 1, most, most + 1, greatest - 1, greatest} {
		if revoke.Valid(r, id, 5) {
			t.Errorf("%d", id)
		}
	}
	none := revoked(0, 10)
	for id := -2; id < 14; id++ {
		if revoke.Valid(none, id, 0) != (1 <= id && id <= 9) {
			t.Errorf("of none: %d", id)
		}
	}
	last := revoked(most, most, 3)
	for id, want := range map[int]bool{1: true, 2: true, 3: false, 4: true, most - 2: true, most - 1: true, most: false} {
		if revoke.Valid(last, id, most) != want || revoke.Valid(last, id, most-1) || revoke.Valid(last, id, most+1) {
			t.Errorf("of the last epoch: %d", id)
		}
	}
	full := revoked(2, 100, evens(16)...)
	for id := 1; id < 100; id++ {
		if revoke.Valid(full, id, 2) != (id%2 == 1 || id > 32) {
			t.Errorf("of a full list: %d", id)
		}
	}
}

// P21.1: of what may not be Valid tells what its words say.
func TestValidOfWrong(t *testing.T) {
	for _, x := range []struct {
		r         api.Revoked
		id, epoch int
		want      bool
	}{
		{api.Revoked{}, 1, 0, false}, {api.Revoked{}, 0, 0, false}, {api.Revoked{}, -1, 0, false},
		{revoked(0, 1), 1, 0, false}, {revoked(0, 1), 0, 0, false},
		{revoked(0, least), 1, 0, false}, {revoked(0, least), greatest, 0, false}, {revoked(0, least), least, 0, false},
		{revoked(0, -5), -6, 0, false}, {revoked(0, -5), 3, 0, false},
		{revoked(0, greatest), 1, 0, true}, {revoked(0, greatest), greatest - 1, 0, true}, {revoked(0, greatest), greatest, 0, false}, {revoked(0, greatest), least, 0, false},
		{revoked(-1, 5), 1, -1, true}, {revoked(-1, 5), 1, 0, false}, {revoked(least, 5), 4, least, true}, {revoked(greatest, 5), 4, greatest, true}, {revoked(greatest, 5), 4, least, false},
		{revoked(0, 10, 7, 3, 3, 5), 3, 0, false}, {revoked(0, 10, 7, 3, 3, 5), 5, 0, false}, {revoked(0, 10, 7, 3, 3, 5), 7, 0, false}, {revoked(0, 10, 7, 3, 3, 5), 4, 0, true},
		{revoked(0, 100, evens(40)...), 80, 0, false}, {revoked(0, 100, evens(40)...), 81, 0, true},
		{revoked(0, 10, 0, 20), 0, 0, false}, {revoked(0, 10, 0, 20), 20, 0, false},
	} {
		if revoke.Valid(x.r, x.id, x.epoch) != x.want {
			t.Errorf("%d of %d in %+v: %v", x.id, x.epoch, x.r, !x.want)
		}
	}
}

// P21.2: one more id.
func TestMint(t *testing.T) {
	for _, next := range []int{2, 3, 300, most - 2, most - 1, 1, 0, -1, least} {
		for _, ids := range [][]int{nil, {1}, {5, 3}, evens(16), evens(17)} {
			for _, epoch := range []int{0, 7, most, -1, greatest} {
				r := revoked(epoch, next, ids...)
				if got, id, e := revoke.Mint(r); !same(got, revoked(epoch, next+1, ids...)) || id != next || e != api.OK {
					t.Errorf("of %+v: %+v, %d, %d", r, got, id, e)
				}
			}
		}
	}
	for _, next := range []int{most, most + 1, greatest - 1, greatest} {
		for _, ids := range [][]int{nil, {1}, {5, 3}, evens(16)} {
			r := revoked(3, next, ids...)
			if got, id, e := revoke.Mint(r); !same(got, r) || id != 0 || e != api.ErrFull {
				t.Errorf("of %+v: %+v, %d, %d", r, got, id, e)
			}
		}
	}
}

// takes looks whether Revoke of id is OK, with these ids.
func takes(t *testing.T, what string, r api.Revoked, id int, ids ...int) {
	t.Helper()
	want := copied(r)
	want.IDs = ids
	if got, e := revoke.Revoke(r, id); !same(got, want) || e != api.OK {
		t.Errorf("%s: %+v, %d, not %+v", what, got, e, want)
	}
}

// refused looks whether Revoke of id is refused, with r answered as it is.
func refused(t *testing.T, what string, r api.Revoked, id int, want api.Errno) {
	t.Helper()
	if got, e := revoke.Revoke(r, id); !same(got, r) || e != want {
		t.Errorf("%s: %+v, %d, not %d", what, got, e, want)
	}
}

// P21.2: an id stands among the others, once.
func TestRevoke(t *testing.T) {
	takes(t, "the first token's", revoke.Start(), 1, 1)
	takes(t, "into none", revoked(3, 10), 5, 5)
	takes(t, "the last one that was minted", revoked(3, 10), 9, 9)
	takes(t, "ahead of all", revoked(3, 10, 3, 5), 1, 1, 3, 5)
	takes(t, "just ahead of all", revoked(3, 10, 3, 5), 2, 2, 3, 5)
	takes(t, "in the middle", revoked(3, 10, 3, 5), 4, 3, 4, 5)
	takes(t, "behind all", revoked(3, 10, 3, 5), 9, 3, 5, 9)
	takes(t, "just behind all", revoked(3, 10, 3, 5), 6, 3, 5, 6)
	takes(t, "the greatest one", revoked(3, most, 1), most-1, 1, most-1)
	for i, id := range []int{1, 4, 8, 9} {
		takes(t, "there already", revoked(3, 10, 1, 4, 8, 9), []int{1, 4, 8, 9}[i], 1, 4, 8, 9)
		takes(t, "there already, alone", revoked(3, 10, id), id, id)
	}
	takes(t, "the sixteenth one, ahead of all", revoked(3, 100, evens(15)...), 1, append([]int{1}, evens(15)...)...)
	takes(t, "the sixteenth one, in the middle", revoked(3, 100, evens(15)...), 7, slices.Insert(evens(15), 3, 7)...)
	takes(t, "the sixteenth one, behind all", revoked(3, 100, evens(15)...), 99, append(evens(15), 99)...)
	for _, id := range evens(16) {
		takes(t, "there already in a full list", revoked(3, 100, evens(16)...), id, evens(16)...)
	}
}

// P21.2: Revoke's errors, of which the first one that applies is told.
func TestRevokeWrong(t *testing.T) {
	full, over := revoked(3, 100, evens(16)...), revoked(3, 100, evens(17)...)
	for _, r := range []api.Revoked{revoked(3, 100), revoked(3, 100, 1, 99), full, over} {
		for _, id := range []int{least, least + 1, -1, 0, 100, 101, most, greatest} {
			refused(t, "no id", r, id, api.ErrArg)
		}
	}
	for _, id := range []int{0, 2, 3} {
		refused(t, "of the start", revoke.Start(), id, api.ErrArg)
	}
	for _, id := range []int{1, 3, 31, 33, 35, 98, 99} {
		refused(t, "full", full, id, api.ErrFull)
		refused(t, "more than full", over, id, api.ErrFull)
	}
	refused(t, "Next, at its greatest", revoked(0, most), most, api.ErrArg)
}

// P21.2: of what may not be Revoke answers what its words say.
func TestRevokeOfWrong(t *testing.T) {
	for _, next := range []int{least, -1, 0, 1} {
		for _, id := range []int{least, -2, -1, 0, 1, 2, greatest - 1, greatest} {
			refused(t, "no id was minted", revoked(0, next, 1), id, api.ErrArg)
		}
	}
	refused(t, "there, but beyond Next", revoked(0, 5, 5, 7), 7, api.ErrArg)
	refused(t, "there, but 0", revoked(0, 5, 0), 0, api.ErrArg)
	takes(t, "there, in a list that is too long", revoked(0, 100, evens(17)...), 34, evens(17)...)
	takes(t, "of a Next beyond its limit", revoked(0, greatest, 3), greatest-1, 3, greatest-1)
	takes(t, "of an epoch below 0", revoked(-4, 10, 3), 2, 2, 3)
	takes(t, "there, in one that falls", revoked(0, 10, 5, 3, 1), 1, 5, 3, 1)
	takes(t, "ahead of the first one above", revoked(0, 10, 5, 3, 8, 7), 6, 5, 3, 6, 8, 7)
	takes(t, "behind all that fall", revoked(0, 10, 5, 3), 6, 5, 3, 6)
}

// P21.2: the next epoch has no ids that hold no more, and the same Next.
func TestBump(t *testing.T) {
	for _, epoch := range []int{0, 1, 300, most - 2, most - 1, -1, least} {
		for _, ids := range [][]int{nil, {}, {1}, {5, 3}, evens(15), evens(16), evens(17)} {
			for _, next := range []int{2, 40, most, 0, greatest} {
				r := revoked(epoch, next, ids...)
				if got, e := revoke.Bump(r); !same(got, revoked(epoch+1, next)) || e != api.OK {
					t.Errorf("of %+v: %+v, %d", r, got, e)
				}
			}
		}
	}
	for _, epoch := range []int{most, most + 1, greatest - 1, greatest} {
		for _, ids := range [][]int{nil, {1}, {5, 3}, evens(16), evens(17)} {
			r := revoked(epoch, 40, ids...)
			if got, e := revoke.Bump(r); !same(got, r) || e != api.ErrFull {
				t.Errorf("of %+v: %+v, %d", r, got, e)
			}
		}
	}
}

// P21.2: Revoke, Mint and Bump, one behind the other.
func TestOneBehindTheOther(t *testing.T) {
	r, e := revoke.Revoke(revoke.Start(), 1)
	if !same(r, revoked(0, 2, 1)) || e != api.OK {
		t.Fatalf("%+v, %d", r, e)
	}
	r, id, e := revoke.Mint(r)
	if !same(r, revoked(0, 3, 1)) || id != 2 || e != api.OK {
		t.Fatalf("%+v, %d, %d", r, id, e)
	}
	r, e = revoke.Bump(r)
	if !same(r, revoked(1, 3)) || e != api.OK {
		t.Fatalf("%+v, %d", r, e)
	}
	if !revoke.Valid(r, 1, 1) || !revoke.Valid(r, 2, 1) || revoke.Valid(r, 3, 1) || revoke.Valid(r, 2, 0) {
		t.Errorf("of the next epoch: %+v", r)
	}
	r, id, e = revoke.Mint(r)
	if !same(r, revoked(1, 4)) || id != 3 || e != api.OK {
		t.Fatalf("%+v, %d, %d", r, id, e)
	}
	r, e = revoke.Revoke(r, id)
	if !same(r, revoked(1, 4, 3)) || e != api.OK || revoke.Valid(r, 3, 1) || !revoke.Valid(r, 1, 1) {
		t.Fatalf("%+v, %d", r, e)
	}
}

// P21.3: the bytes, behind what is there.
func TestPut(t *testing.T) {
	for _, g := range goods() {
		for _, ahead := range []string{"", "x", "ahead"} {
			if b := revoke.Put([]byte(ahead), g.r); string(b) != ahead+g.b {
				t.Errorf("%+v: %x", g.r, b)
			}
		}
	}
	if b := revoke.Put(nil, revoked(-1, -5, 300, -7, 2, 2)); string(b) != "\x00\x00\x04\x82\x2c\x00\x02\x02" {
		t.Errorf("one that may not be: %x", b)
	}
}

// P21.3: what was written is read, whatever stands behind.
func TestRead(t *testing.T) {
	for _, g := range goods() {
		for _, more := range []string{"", "\x00", "more"} {
			rd := pack.Open([]byte(g.b + more))
			if r := revoke.Read(rd); !same(r, g.r) || rd.Err() != api.OK || rd.Left() != len(more) {
				t.Errorf("%+v: %+v, %d, %d are left", g.r, r, rd.Err(), rd.Left())
			}
		}
	}
}

// P21.3: bytes that end too early, at each place.
func TestReadShort(t *testing.T) {
	for _, g := range goods() {
		for end := range g.b {
			rd := pack.Open([]byte(g.b[:end]))
			if r := revoke.Read(rd); !same(r, api.Revoked{}) || rd.Err() != api.ErrShort || rd.Left() != 0 {
				t.Errorf("the first %d bytes of %+v: %+v, %d", end, g.r, r, rd.Err())
			}
		}
	}
}

// P21.3, rule R7: the first error from left to right, each field with its
// limit; what may not be is told behind these.
func TestReadWrong(t *testing.T) {
	num, over, bad := "\x88\x80\x80\x80\x00", "\x88\x80\x80\x80\x01", "\x80\x01" // 2^31, one more, two forms
	for _, x := range []struct {
		b    string
		want api.Errno
	}{
		{over, api.ErrLong}, {bad, api.ErrForm}, {over + bad, api.ErrLong},
		{"\x03" + over, api.ErrLong}, {"\x03" + bad, api.ErrForm},
		{"\x03\x14\x11", api.ErrLong}, {"\x03\x14" + over, api.ErrLong}, {"\x03\x14" + bad, api.ErrForm},
		{"\x03\x14\x01" + over, api.ErrLong}, {"\x03\x14\x01" + bad, api.ErrForm},
		{"\x03\x14\x02\x01" + over, api.ErrLong}, {"\x03\x14\x02\x01" + bad, api.ErrForm},
		{"\x03\x14\x01" + num, api.ErrForm}, {"\x03" + num + "\x01" + num, api.ErrForm}, // within its limit, but not below Next
		{"\x03\x14\x01\x14", api.ErrForm}, {"\x03\x14\x01\x15", api.ErrForm}, {"\x03\x14\x01\x00", api.ErrForm},
		{"\x03\x14\x02\x05\x05", api.ErrForm}, {"\x03\x14\x02\x05\x04", api.ErrForm},
		{"\x03\x00\x00", api.ErrForm}, {"\x03\x01\x00", api.ErrForm}, {"\x03\x01\x01\x01", api.ErrForm}, {"\x03\x01\x01\x00", api.ErrForm},
		{"\x03\x00", api.ErrShort}, {"\x03\x00\x01", api.ErrShort}, {"\x03\x00\x11", api.ErrLong}, {"\x03\x00\x01" + over, api.ErrLong}, // nothing of it may be
		{"\x03\x14\x02\x05", api.ErrShort}, {"\x03\x14\x02\x00", api.ErrShort}, {"\x03\x14\x03\x05\x04", api.ErrShort}, {"\x03\x14\x03\x05\x04" + over, api.ErrLong}, // ids that fall
		{"\x03\x14\x10\x01", api.ErrShort},
		{"", api.ErrShort},
	} {
		rd := pack.Open([]byte(x.b))
		if r := revoke.Read(rd); !same(r, api.Revoked{}) || rd.Err() != x.want || rd.Left() != 0 {
			t.Errorf("%x: %+v, %d, not %d", x.b, r, rd.Err(), x.want)
		}
	}
}

// P21.3: of what may not be, whose fields have their limits, ErrForm.
func TestReadForm(t *testing.T) {
	forms := 0
	for _, r := range wrongs() {
		rd := pack.Open(revoke.Put(nil, r))
		got := revoke.Read(rd)
		if rd.Err() == api.OK { // what is below 0 is written as 0
			if !revoke.Check(got) {
				t.Errorf("%+v: %+v", r, got)
			}
			continue
		}
		if !same(got, api.Revoked{}) || rd.Err() != api.ErrForm && rd.Err() != api.ErrLong {
			t.Errorf("%+v: %+v, %d", r, got, rd.Err())
		}
		if rd.Err() == api.ErrForm {
			forms++
		}
	}
	if forms < 20 {
		t.Errorf("ErrForm of %d alone", forms)
	}
}

// P21.3: a reader that has an error already, or that no call made.
func TestReadNone(t *testing.T) {
	rd := pack.Open([]byte("\x00\x02\x00"))
	rd.Fail(api.ErrSum)
	if r := revoke.Read(rd); !same(r, api.Revoked{}) || rd.Err() != api.ErrSum {
		t.Errorf("%+v, %d", r, rd.Err())
	}
	for _, rd := range []*pack.Reader{nil, {}} {
		if r := revoke.Read(rd); !same(r, api.Revoked{}) || rd.Err() != api.ErrNil {
			t.Errorf("%+v, %d", r, rd.Err())
		}
	}
}

// P21.3: field by field, of such that may not be, too.
func TestSame(t *testing.T) {
	all := func() api.Revoked { return revoked(-3, 4, 7, 0, 7) }
	if !revoke.Same(all(), all()) || !revoke.Same(api.Revoked{}, api.Revoked{IDs: []int{}}) || !revoke.Same(revoke.Start(), revoked(0, 2)) {
		t.Error("the same are not")
	}
	for i, change := range []func(r *api.Revoked){
		func(r *api.Revoked) { r.Epoch++ }, func(r *api.Revoked) { r.Epoch-- }, func(r *api.Revoked) { r.Next++ }, func(r *api.Revoked) { r.Next = greatest },
		func(r *api.Revoked) { r.IDs = nil }, func(r *api.Revoked) { r.IDs = r.IDs[1:] }, func(r *api.Revoked) { r.IDs = r.IDs[:2] },
		func(r *api.Revoked) { r.IDs = append(r.IDs, 0) }, func(r *api.Revoked) { r.IDs[0], r.IDs[1] = r.IDs[1], r.IDs[0] },
		func(r *api.Revoked) { r.IDs[0]++ }, func(r *api.Revoked) { r.IDs[1]-- }, func(r *api.Revoked) { r.IDs[2] = least },
	} {
		r := all()
		change(&r)
		if revoke.Same(r, all()) || revoke.Same(all(), r) {
			t.Errorf("change %d: %+v", i, r)
		}
	}
}

// begin is one to go on from, now and then close to an end.
func begin(rnd *rand.Rand) api.Revoked {
	r := revoke.Start()
	if rnd.Intn(3) == 0 {
		r.Next = most - rnd.Intn(9)
	}
	if rnd.Intn(3) == 0 {
		r.Epoch = most - rnd.Intn(3)
	}
	return r
}

// step does one of the calls with numbers that often fit, tells whether it was
// Bump, and whether it was OK.
func step(rnd *rand.Rand, r api.Revoked) (next api.Revoked, bumped, ok bool) {
	var e api.Errno
	switch rnd.Intn(12) {
	case 0:
		next, e = revoke.Bump(r)
		return next, e == api.OK, e == api.OK
	case 1, 2, 3, 4:
		next, _, e = revoke.Mint(r)
	default:
		next, e = revoke.Revoke(r, min(r.Next, 30)-rnd.Intn(30))
	}
	return next, false, e == api.OK
}

// P21.4: what is revoked is not Valid again until Bump; what may be stays so,
// and is read as it was written; with an error it is as it was.
func TestRevokedStays(t *testing.T) {
	rnd := rand.New(rand.NewSource(21))
	done, bumps := 0, 0
	for range 400 {
		r := begin(rnd)
		gone := map[int]bool{}
		for range 60 {
			next, bumped, ok := step(rnd, r)
			if !revoke.Check(next) || !ok && !same(next, r) {
				t.Fatalf("of %+v: %+v, %v", r, next, ok)
			}
			if ok {
				done++
			}
			if bumped {
				bumps++
				for id := range 40 {
					if revoke.Valid(next, id, r.Epoch) {
						t.Fatalf("behind Bump: %d of %+v", id, r)
					}
				}
				gone = map[int]bool{}
			}
			for _, id := range next.IDs {
				gone[id] = true
			}
			for id := range gone {
				if revoke.Valid(next, id, next.Epoch) {
					t.Fatalf("%d is Valid again: %+v", id, next)
				}
			}
			rd := pack.Open(revoke.Put(nil, next))
			if back := revoke.Read(rd); !revoke.Same(back, next) || rd.End() != api.OK {
				t.Fatalf("%+v: %+v, %d", next, back, rd.Err())
			}
			r = next
		}
	}
	if done < 5000 || bumps < 500 {
		t.Errorf("%d were OK, %d of them Bump", done, bumps)
	}
}

// P21.4: held against what a map of the ids would tell.
func TestAgainstMap(t *testing.T) {
	rnd := rand.New(rand.NewSource(214))
	for range 200 {
		r := revoke.Start()
		gone := map[int]bool{}
		for range 100 {
			if rnd.Intn(3) == 0 {
				r, _, _ = revoke.Mint(r)
			}
			id := rnd.Intn(r.Next + 2)
			next, e := revoke.Revoke(r, id)
			want := api.OK
			switch {
			case id == 0 || id >= r.Next:
				want = api.ErrArg
			case !gone[id] && len(gone) == 16:
				want = api.ErrFull
			default:
				gone[id] = true
			}
			if e != want {
				t.Fatalf("%d of %+v: %d, not %d", id, r, e, want)
			}
			r = next
			for id := range r.Next + 2 {
				if revoke.Valid(r, id, 0) != (1 <= id && id < r.Next && !gone[id]) {
					t.Fatalf("%d of %+v", id, r)
				}
			}
			if len(r.IDs) != len(gone) || !slices.IsSorted(r.IDs) {
				t.Fatalf("%+v, not %v", r, gone)
			}
		}
	}
}

// Rule R3: what is handed in is neither changed nor kept, what is answered is
// the caller's own.
func TestNothingShared(t *testing.T) {
	ours := []int{3, 5, 7}
	room := make([]int, 10)
	copy(room, ours)
	r := revoked(2, 9, room[:3]...)
	last, end := revoked(2, most, room[:3]...), revoked(most, 9, room[:3]...)
	calls := map[string]func() api.Revoked{
		"Mint":         func() api.Revoked { x, _, _ := revoke.Mint(r); return x },
		"Mint not":     func() api.Revoked { x, _, _ := revoke.Mint(last); return x },
		"Revoke first": func() api.Revoked { x, _ := revoke.Revoke(r, 1); return x },
		"Revoke":       func() api.Revoked { x, _ := revoke.Revoke(r, 4); return x },
		"Revoke last":  func() api.Revoked { x, _ := revoke.Revoke(r, 8); return x },
		"Revoke again": func() api.Revoked { x, _ := revoke.Revoke(r, 5); return x },
		"Revoke not":   func() api.Revoked { x, _ := revoke.Revoke(r, 9); return x },
		"Bump":         func() api.Revoked { x, _ := revoke.Bump(r); return x },
		"Bump not":     func() api.Revoked { x, _ := revoke.Bump(end); return x },
	}
	for name, call := range calls {
		got := call()
		clear(got.IDs[:cap(got.IDs)])
		if !slices.Equal(room[:3], ours) || !slices.Equal(room[3:], make([]int, 7)) {
			t.Errorf("%s: %v", name, room)
		}
		copy(room, ours)
		clear(room[3:])
		got = call()
		want := copied(got)
		clear(room)
		if !same(got, want) {
			t.Errorf("%s: is kept", name)
		}
		copy(room, ours)
	}
	full := revoked(2, 100, evens(16)...)
	got, _ := revoke.Revoke(full, 3)
	clear(got.IDs)
	if !slices.Equal(full.IDs, evens(16)) {
		t.Errorf("Revoke into a full list: %v", full.IDs)
	}
	if a, b := revoke.Start(), revoke.Start(); len(a.IDs)+cap(a.IDs)+len(b.IDs)+cap(b.IDs) != 0 {
		t.Errorf("Start: %+v, %+v", a, b)
	}
}

// Rule R3, of the bytes: Put's and Read's.
func TestNoBytesShared(t *testing.T) {
	b := append(make([]byte, 0, 64), "ahead"...)
	first := revoke.Put(b, revoke.Start())
	second := revoke.Put(b, revoked(1, 9, 3))
	if string(b[:64]) != "ahead"+string(make([]byte, 59)) || string(first) != "ahead\x00\x02\x00" || string(second) != "ahead\x01\x09\x01\x03" {
		t.Errorf("Put: %q, %q, %q", b[:64], first, second)
	}
	clear(first[:cap(first)])
	if string(b) != "ahead" {
		t.Errorf("Put's bytes are shared: %q", b)
	}
	rd := pack.Open(second[5:])
	back := revoke.Read(rd)
	clear(second)
	if !same(back, revoked(1, 9, 3)) {
		t.Errorf("Read's are shared: %+v", back)
	}
}

// The chapter's example.
func TestExample(t *testing.T) {
	r := revoke.Start()
	if !revoke.Valid(r, 1, 0) {
		t.Error("the first token does not hold")
	}
	if r, e := revoke.Revoke(r, 1); e != api.OK || revoke.Valid(r, 1, 0) {
		t.Errorf("%+v, %d", r, e)
	}
}

// P21.3: any bytes: what is taken may be, and has just those bytes.
func FuzzRead(f *testing.F) {
	for _, g := range goods() {
		f.Add([]byte(g.b))
	}
	for _, r := range wrongs() {
		f.Add(revoke.Put(nil, r))
	}
	f.Fuzz(func(t *testing.T, b []byte) {
		rd := pack.Open(b)
		r := revoke.Read(rd)
		if rd.Err() != api.OK {
			if !same(r, api.Revoked{}) || rd.Err() != api.ErrShort && rd.Err() != api.ErrForm && rd.Err() != api.ErrLong {
				t.Errorf("%x: %+v, %d", b, r, rd.Err())
			}
			return
		}
		if taken := b[:len(b)-rd.Left()]; !revoke.Check(r) || string(revoke.Put(nil, r)) != string(taken) {
			t.Errorf("%x: %+v", b, r)
		}
	})
}
