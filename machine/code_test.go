package machine_test

import (
	"bytes"
	"fmt"
	"slices"
	"strings"
	"testing"

	"bailey/api"
	"bailey/board"
	"bailey/catalog"
	"bailey/machine"
)

// startCode are the bytes of a catalog ahead of all, of the quota 5.
func startCode() string {
	return "\x00\x00\x05\x00\x00\x01\x00\x00\x00\x02\x00\x00\x20" + strings.Repeat("\x00", 32) + "\x00"
}

// codes are machines, and their bytes.
func codes() []struct {
	m    api.Machine
	code string
} {
	three := machine.Start(3, 5)
	three.Index, three.Sessions = 300, []api.Session{{Client: 0, Seq: 1, Reply: []byte("r")}, {Client: 7, Seq: num, Reply: []byte("\x00\xff")}}
	last := machine.Start(4, 5)
	last.Index, last.Board.Shares = num, []api.Share{{Lane: 1, Bytes: 2}, {Lane: 4, Bytes: 3}}
	last.Sessions = []api.Session{{Client: 2, Seq: 300, Reply: bytes.Repeat([]byte("z"), 4096)}}
	return []struct {
		m    api.Machine
		code string
	}{
		{machine.Start(0, 5), "\x00\x00" + startCode() + "\x05\x00" + "\x00"},
		{three, "\x03\x82\x2c" + startCode() + "\x05\x00" + "\x02\x00\x01\x01r\x07" + numCode + "\x02\x00\xff"},
		{last, "\x04" + numCode + startCode() + "\x05\x02\x01\x02\x04\x03" + "\x01\x02\x82\x2c\xa0\x00" + strings.Repeat("z", 4096)},
	}
}

// baseCode are the parts of the bytes of the base of lane 2.
func baseCode() []string {
	m := base(2)
	return []string{
		"\x02", "\x32", string(catalog.Put(nil, m.Catalog)), "\x64\x02\x02\x32\x04\x0a", "\x02", "\x01", "\x14", "\x0creply of one", "\x05", "\x1e", "\x0dreply of five",
	}
}

// code is the machine's bytes, whether it may be or not.
func code(m api.Machine) []byte {
	b := board.Put(catalog.Put(number(number(nil, m.Lane), m.Index), m.Catalog), m.Board)
	b = number(b, len(m.Sessions))
	for _, s := range m.Sessions {
		b = append(number(number(number(b, s.Client), s.Seq), len(s.Reply)), s.Reply...)
	}
	return b
}

// number is b and n behind it, in groups of seven bits.
func number(b []byte, n int) []byte {
	n = max(n, 0)
	l := []byte{byte(n % 128)}
	for n >>= 7; n > 0; n >>= 7 {
		l = append(l, byte(n%128)|128)
	}
	slices.Reverse(l)
	return append(b, l...)
}

// P26.5: the bytes; none of one that may not be.
func TestEncode(t *testing.T) {
	for _, c := range codes() {
		if b, e := machine.Encode(c.m); string(b) != c.code || e != api.OK {
			t.Errorf("%s: %x, %d", line(c.m), b, e)
		}
	}
	for _, m := range goods() {
		if b, e := machine.Encode(m); !bytes.Equal(b, code(m)) || e != api.OK {
			t.Errorf("%s: %x, %d", line(m), b, e)
		}
	}
	if b, _ := machine.Encode(base(2)); string(b) != strings.Join(baseCode(), "") {
		t.Errorf("%x", b)
	}
	for _, w := range wrongs() {
		if b, e := machine.Encode(w.m); len(b) != 0 || e != api.ErrArg {
			t.Errorf("%s: %x, %d", line(w.m), b, e)
		}
	}
	for _, m := range below() {
		if b, e := machine.Encode(m); len(b) != 0 || e != api.ErrArg {
			t.Errorf("%s: %x, %d", line(m), b, e)
		}
	}
}

// none tells whether m is the zero machine.
func none(m api.Machine) bool { return alike(m, api.Machine{}) }

// P26.5, P26.7: what was written is read, and nothing behind it.
func TestDecode(t *testing.T) {
	for _, m := range goods() {
		b := code(m)
		if got, e := machine.Decode(b); !alike(got, m) || !machine.Same(got, m) || e != api.OK {
			t.Errorf("%s: %s, %d", line(m), line(got), e)
		}
		for _, more := range []string{"\x00", "\x80", "more"} {
			if got, e := machine.Decode(append(bytes.Clone(b), more...)); !none(got) || e != api.ErrForm {
				t.Errorf("%s and %q: %s, %d", line(m), more, line(got), e)
			}
		}
	}
}

// P26.5: bytes that end too early, at each place.
func TestDecodeShort(t *testing.T) {
	for _, c := range codes()[:2] {
		for end := range c.code {
			if m, e := machine.Decode([]byte(c.code[:end])); !none(m) || e != api.ErrShort {
				t.Errorf("the first %d bytes of %x: %s, %d", end, c.code, line(m), e)
			}
		}
	}
	for _, m := range []api.Machine{base(0), changed(1, full)} {
		b := code(m)
		for end := range b {
			if got, e := machine.Decode(b[:end]); !none(got) || e != api.ErrShort {
				t.Errorf("the first %d bytes of %s: %s, %d", end, line(m), line(got), e)
			}
		}
	}
}

// P26.5: machines that may not be.
func TestDecodeWrong(t *testing.T) {
	for _, w := range wrongs() {
		if m, e := machine.Decode(code(w.m)); !none(m) || e != w.e {
			t.Errorf("%s: %s, %d, not %d", line(w.m), line(m), e, w.e)
		}
	}
}

// wrongFields are, of each field (by its place), bytes that are not taken there.
func wrongFields() map[int]map[string]api.Errno {
	client := map[string]api.Errno{"\x08": api.ErrLong, "\x81\x00": api.ErrLong, "\x80\x01": api.ErrForm}
	seq := map[string]api.Errno{"\x00": api.ErrForm, numOver: api.ErrLong, bigCode: api.ErrLong, "\x80\x01": api.ErrForm, strings.Repeat("\xff", 9): api.ErrForm}
	reply := map[string]api.Errno{"\x00": api.ErrForm, "\xa0\x01" + strings.Repeat("a", 4097): api.ErrLong, "\x80\x01a": api.ErrForm}
	quota := "\x00\x00" + bigOver + startCode()[3:] // of a catalog
	return map[int]map[string]api.Errno{
		0:  {"\x05": api.ErrLong, "\x81\x00": api.ErrLong, "\x80\x01": api.ErrForm},
		1:  {numOver: api.ErrLong, bigCode: api.ErrLong, "\x80\x01": api.ErrForm},
		2:  {quota: api.ErrLong, bigOver + startCode()[1:]: api.ErrLong, "\x00\x07" + startCode()[2:]: api.ErrLong, startCode()[:5] + "\x00" + startCode()[6:]: api.ErrForm, "": api.ErrForm},
		3:  {bigOver + "\x00": api.ErrLong, "\x05\x05": api.ErrLong, "\x05\x01\x05\x01": api.ErrLong, "\x05\x01\x00\x01": api.ErrForm, "\x05\x01\x01\x06": api.ErrForm, "\x05\x01\x01\x00": api.ErrForm},
		4:  {"\x09": api.ErrLong, "\x80\x00": api.ErrForm, "\x00": api.ErrForm, "\x01": api.ErrForm, "\x03": api.ErrShort},
		5:  client,
		6:  seq,
		7:  reply,
		8:  {"\x08": api.ErrLong, "\x80\x05": api.ErrForm, "\x01": api.ErrForm, "\x00": api.ErrForm},
		9:  seq,
		10: reply,
	}
}

// P26.5, R7: each field beyond its limit, and such that may not be.
func TestDecodeFields(t *testing.T) {
	for at, parts := range wrongFields() {
		for part, want := range parts {
			l := baseCode()
			l[at] = part
			b := strings.Join(l, "")
			if m, e := machine.Decode([]byte(b)); !none(m) || e != want {
				t.Errorf("field %d is %x: %s, %d, not %d", at, part, line(m), e, want)
			}
		}
	}
}

// R7: of two fields beyond their limits the first one's error stays; sessions
// that may not be are told behind these.
func TestDecodeFirst(t *testing.T) {
	parts := map[int]string{0: "\x05", 1: "\x80\x01", 2: bigOver + startCode()[1:], 3: "\x80\x00", 4: "\x09", 5: "\x80\x01", 6: numOver, 7: "\x80\x01a", 8: "\x08", 9: "\x80\x01", 10: "\xa0\x01"}
	for a, x := range parts {
		want := api.ErrLong
		if x[0] == 0x80 {
			want = api.ErrForm
		}
		for b, y := range parts {
			if a >= b {
				continue
			}
			l := baseCode()
			l[a], l[b] = x, y
			if m, e := machine.Decode([]byte(strings.Join(l, ""))); !none(m) || e != want {
				t.Errorf("fields %d and %d: %d, not %d", a, b, e, want)
			}
		}
	}
	for at, part := range map[int]string{5: "\x05", 6: "\x00", 7: "\x00"} {
		l := baseCode()
		l[at] = part
		b := strings.Join(l, "")
		if _, e := machine.Decode([]byte(b[:len(b)-1])); e != api.ErrShort {
			t.Errorf("field %d may not be, too short: %d", at, e)
		}
		l[9] = numOver
		if _, e := machine.Decode([]byte(strings.Join(l, ""))); e != api.ErrLong {
			t.Errorf("field %d may not be, and a number beyond its limit: %d", at, e)
		}
	}
}

// P26.1: field by field, of machines that may not be, too.
func TestSame(t *testing.T) {
	all := []api.Machine{
		base(2), {}, base(1), machine.Start(2, 5), machine.Start(2, 6),
		changed(2, func(m *api.Machine) { m.Index++ }), changed(2, func(m *api.Machine) { m.Index, m.Lane = m.Lane, m.Index }),
		changed(2, func(m *api.Machine) { m.Catalog.Time++ }), changed(2, func(m *api.Machine) { m.Catalog.Spaces[0].Readers++ }), changed(2, func(m *api.Machine) { m.Catalog.Ledger.Holds[1].Bytes++ }),
		changed(2, func(m *api.Machine) { m.Catalog.Snaps[0].Pieces[1].Size++ }), changed(2, func(m *api.Machine) { m.Catalog.Revoked.IDs[1]++ }), changed(2, func(m *api.Machine) { m.Catalog.Chain.Head = sum('i') }), changed(2, func(m *api.Machine) { m.Catalog.Swept++ }),
		changed(2, func(m *api.Machine) { m.Board.Capacity++ }), changed(2, func(m *api.Machine) { m.Board.Shares[0].Bytes++ }), changed(2, func(m *api.Machine) { m.Board.Shares[1].Lane = 3 }), changed(2, func(m *api.Machine) { m.Board.Shares = nil }),
		changed(2, func(m *api.Machine) { m.Sessions[0].Client = 2 }), changed(2, func(m *api.Machine) { m.Sessions[1].Seq++ }), changed(2, func(m *api.Machine) { m.Sessions[1].Reply[12]++ }), changed(2, func(m *api.Machine) { m.Sessions[1].Reply = m.Sessions[1].Reply[:12] }),
		changed(2, func(m *api.Machine) { m.Sessions = nil }), changed(2, func(m *api.Machine) { m.Sessions = m.Sessions[:1] }), changed(2, func(m *api.Machine) { m.Sessions = m.Sessions[1:] }), changed(2, func(m *api.Machine) { slices.Reverse(m.Sessions) }),
		changed(2, func(m *api.Machine) { m.Sessions = append(m.Sessions, api.Session{}) }), changed(2, func(m *api.Machine) { m.Index = least }),
	}
	for i, a := range all {
		for j, b := range all {
			if machine.Same(a, copied(b)) != (i == j) {
				t.Errorf("%d and %d: %s and %s", i, j, line(a), line(b))
			}
		}
	}
	empty := api.Machine{Sessions: []api.Session{}, Board: api.Board{Shares: []api.Share{}}, Catalog: api.Catalog{Spaces: []api.Space{}, Snaps: []api.Snap{}}}
	if !machine.Same(api.Machine{}, empty) || !machine.Same(empty, api.Machine{}) {
		t.Error("nil lists and empty ones are not the same")
	}
	one, other := changed(2, func(m *api.Machine) { m.Sessions[0].Reply = nil }), changed(2, func(m *api.Machine) { m.Sessions[0].Reply = []byte{} })
	if !machine.Same(one, other) {
		t.Error("no reply and an empty one are not the same")
	}
}

// roomy is m with room behind each of its lists.
func roomy(m api.Machine) api.Machine {
	m = copied(m)
	c := &m.Catalog
	c.Spaces, c.Ledger.Holds, c.Revoked.IDs = room(c.Spaces), room(c.Ledger.Holds), room(c.Revoked.IDs)
	c.Snaps, m.Board.Shares, m.Sessions = room(c.Snaps), room(m.Board.Shares), room(m.Sessions)
	for i := range m.Sessions {
		m.Sessions[i].Reply = room(m.Sessions[i].Reply)
	}
	return m
}

func room[T any](l []T) []T { return append(make([]T, 0, 2*len(l)+3), l...) }

// spoil writes over all that m's lists have, and over the room behind them.
func spoil(m api.Machine) {
	for _, s := range m.Catalog.Snaps {
		clear(s.Pieces[:cap(s.Pieces)])
	}
	for _, s := range m.Sessions {
		clear(s.Reply[:cap(s.Reply)])
	}
	c := m.Catalog
	clear(c.Spaces[:cap(c.Spaces)])
	clear(c.Ledger.Holds[:cap(c.Ledger.Holds)])
	clear(c.Revoked.IDs[:cap(c.Revoked.IDs)])
	clear(c.Snaps[:cap(c.Snaps)])
	clear(m.Board.Shares[:cap(m.Board.Shares)])
	clear(m.Sessions[:cap(m.Sessions)])
}

// spare tells whether the room behind m's lists, which are the base's, is as
// it was.
func spare(m api.Machine) bool {
	c := m.Catalog
	return c.Spaces[:3][2] == api.Space{} && c.Ledger.Holds[:3][2] == api.Hold{} && c.Revoked.IDs[:3][2] == 0 &&
		c.Snaps[:3][2].Name == "" && m.Board.Shares[:3][2] == api.Share{} && m.Sessions[:3][2].Seq == 0 && m.Sessions[0].Reply[:13][12] == 0
}

// entries are such as Apply goes through in all of its ways.
func entries(t *testing.T) []api.Entry {
	m := base(0)
	l := []api.Entry{{Index: 50}, {Index: 51}, {Index: 51, Kind: api.EnConf, Data: []byte{3}}, {Index: 51, Kind: api.EnCommand, Data: []byte("none")}}
	for kind := 1; kind <= 14; kind++ {
		for _, seq := range []int{29, 30, 31} {
			for _, client := range []int{2, 5} {
				l = append(l, entry(t, m, asks(kind, func(x *api.Command) {
					x.Client, x.Seq, x.Space, x.Name, x.Num, x.Bytes = client, seq, "a", "new", 5, 7
					if kind == api.OpShare {
						x.Num = 3
					}
					if kind == api.OpCommit {
						x.Pieces = pieces(3)
					}
				})))
			}
		}
	}
	return l
}

// Rule R3: Apply changes nothing of what is handed in, keeps nothing of it, and
// what it answers may be changed.
func TestApplyShared(t *testing.T) {
	for _, lane := range []int{0, 1} {
		for i, e := range entries(t) {
			m, was := roomy(base(lane)), bytes.Clone(e.Data)
			got, a, ok := machine.Apply(m, e)
			again, b, same := machine.Apply(m, e)
			if !alike(m, base(lane)) || !spare(m) || !bytes.Equal(e.Data, was) {
				t.Fatalf("entry %d: it was changed: %s", i, line(m))
			}
			if !alike(got, again) || fmt.Sprint(a) != fmt.Sprint(b) || ok != same {
				t.Fatalf("entry %d: twice it is not the same", i)
			}
			kept, answer := line(got), fmt.Sprint(a)
			clear(b.Bytes[:cap(b.Bytes)])
			if line(again) != kept {
				t.Errorf("entry %d: the answer is the session's", i)
			}
			spoil(again)
			if !alike(m, base(lane)) || line(got) != kept || fmt.Sprint(a) != answer {
				t.Errorf("entry %d: what is answered is shared", i)
			}
			spoil(m)
			clear(e.Data)
			if line(got) != kept || fmt.Sprint(a) != answer {
				t.Errorf("entry %d: what is handed in is kept", i)
			}
		}
	}
}

// Rule R3: of Query, Encode, Decode and Start, too.
func TestOthersShared(t *testing.T) {
	for _, lane := range []int{0, 1} {
		m := roomy(base(lane))
		for kind := 12; kind <= 14; kind++ {
			x := asks(kind, func(x *api.Command) {
				x.Space, x.Name, x.Caveats, x.Pieces = "a", "old", []api.Caveat{{Kind: 1, Num: 255}}, pieces(3)
			})
			b, again := machine.Query(m, x), machine.Query(m, x)
			clear(b[:cap(b)])
			if !alike(m, base(lane)) || !spare(m) || !bytes.Equal(again, machine.Query(base(lane), x)) || x.Caveats[0].Num != 255 || x.Pieces[0].Size != 3 {
				t.Errorf("kind %d: it was changed, or is shared", kind)
			}
		}
		b, _ := machine.Encode(m)
		again, _ := machine.Encode(m)
		clear(again[:cap(again)])
		if !alike(m, base(lane)) || !spare(m) || !bytes.Equal(b, code(base(lane))) {
			t.Error("Encode's are shared")
		}
		one, _ := machine.Decode(b)
		other, _ := machine.Decode(b)
		if !bytes.Equal(b, code(base(lane))) {
			t.Error("Decode changed its bytes")
		}
		clear(b)
		spoil(one)
		if !alike(other, base(lane)) {
			t.Error("Decode's are shared")
		}
	}
}

// P26.5: any bytes: what is taken may be, and has just those bytes.
func FuzzDecode(f *testing.F) {
	for _, m := range goods() {
		f.Add(code(m))
	}
	for _, w := range wrongs() {
		f.Add(code(w.m))
	}
	f.Fuzz(func(t *testing.T, b []byte) {
		m, e := machine.Decode(b)
		if e != api.OK {
			if !none(m) || e != api.ErrShort && e != api.ErrForm && e != api.ErrLong {
				t.Errorf("%x: %s beside %d", b, line(m), e)
			}
			return
		}
		if again, e := machine.Encode(m); e != api.OK || !bytes.Equal(again, b) || !machine.Check(m) {
			t.Errorf("%x: %s, whose bytes are %x, %d", b, line(m), again, e)
		}
	})
}
