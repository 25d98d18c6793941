package record_test

import (
	"bytes"
	"math"
	"math/rand"
	"slices"
	"strings"
	"testing"

	"bailey/api"
	"bailey/pack"
	"bailey/record"
)

const (
	top      = api.MaxNum
	maxSnap  = 1 << 17
	least    = math.MinInt
	greatest = math.MaxInt
)

// top's bytes, and those of one more.
const (
	topBytes  = "\x88\x80\x80\x80\x00"
	overBytes = "\x88\x80\x80\x80\x01"
)

// some is n bytes, each unlike its neighbour.
func some(n int) []byte {
	b := make([]byte, n)
	for i := range b {
		b[i] = byte(i*7 + i>>8)
	}
	return b
}

// goodEntries are entries that may be, and their bytes.
func goodEntries() []struct {
	e api.Entry
	b string
} {
	long := some(api.MaxEntry)
	return []struct {
		e api.Entry
		b string
	}{
		{api.Entry{Index: 1}, "\x01\x00\x00\x00"},
		{api.Entry{Index: 1, Data: []byte{}}, "\x01\x00\x00\x00"},
		{api.Entry{Index: 2, Term: 1, Kind: api.EnCommand, Data: []byte("ab")}, "\x02\x01\x01\x02ab"},
		{api.Entry{Index: 300, Term: 128, Kind: api.EnConf, Data: []byte{0x80, 0}}, "\x82\x2c\x81\x00\x02\x02\x80\x00"},
		{api.Entry{Index: top, Term: top, Kind: 2}, topBytes + topBytes + "\x02\x00"},
		{api.Entry{Index: top - 1, Term: 0, Kind: 1, Data: []byte("\x00")}, "\x87\xff\xff\xff\x7f\x00\x01\x01\x00"},
		{api.Entry{Index: 7, Term: 7, Kind: 1, Data: long}, "\x07\x07\x01\xa0\x00" + string(long)},
		{api.Entry{Index: 7, Term: 7, Kind: 1, Data: long[1:]}, "\x07\x07\x01\x9f\x7f" + string(long[1:])},
	}
}

// wrongEntries are entries of which just one field may not be.
func wrongEntries() []api.Entry {
	l := []api.Entry{{}, {Index: 1, Data: make([]byte, api.MaxEntry+1)}, {Index: 1, Data: make([]byte, 1<<18)}}
	for _, index := range []int{least, -1, 0, top + 1, greatest} {
		l = append(l, api.Entry{Index: index, Term: 1, Kind: 1, Data: []byte("a")})
	}
	for _, term := range []int{least, -1, top + 1, greatest} {
		l = append(l, api.Entry{Index: 1, Term: term, Kind: 1, Data: []byte("a")})
	}
	for _, kind := range []int{least, -1, 3, 4, greatest} {
		l = append(l, api.Entry{Index: 1, Term: 1, Kind: kind, Data: []byte("a")})
	}
	return l
}

// goodRecords are records that may be, and their bytes.
func goodRecords() []struct {
	r api.Record
	b string
} {
	snap := some(maxSnap)
	l := []struct {
		r api.Record
		b string
	}{
		{api.Record{Kind: api.RcBase}, "\x01\x00\x00\x00\x00"},
		{api.Record{Kind: api.RcBase, Snap: []byte{}, Entry: api.Entry{Data: []byte{}}}, "\x01\x00\x00\x00\x00"},
		{api.Record{Kind: api.RcBase, Index: 3, Term: 2, Conf: 7, Snap: []byte("snap")}, "\x01\x03\x02\x07\x04snap"},
		{api.Record{Kind: api.RcBase, Index: top, Term: top, Conf: 127}, "\x01" + topBytes + topBytes + "\x7f\x00"},
		{api.Record{Kind: api.RcBase, Index: 1, Snap: snap}, "\x01\x01\x00\x00\x88\x80\x00" + string(snap)},
		{api.Record{Kind: api.RcBase, Conf: 1, Snap: snap[1:]}, "\x01\x00\x00\x01\x87\xff\x7f" + string(snap[1:])},
		{api.Record{Kind: api.RcHard}, "\x02\x00\x00"},
		{api.Record{Kind: api.RcHard, Term: 3, Vote: 2}, "\x02\x03\x02"},
		{api.Record{Kind: api.RcHard, Term: top, Vote: 7}, "\x02" + topBytes + "\x07"},
		{api.Record{Kind: api.RcCut, Index: 1}, "\x04\x01"},
		{api.Record{Kind: api.RcCut, Index: 300}, "\x04\x82\x2c"},
		{api.Record{Kind: api.RcCut, Index: top}, "\x04" + topBytes},
	}
	for _, g := range goodEntries() {
		l = append(l, struct {
			r api.Record
			b string
		}{api.Record{Kind: api.RcEntry, Entry: g.e}, "\x03" + g.b})
	}
	return l
}

// plain are one record of each kind, of which all fields that it has are not zero.
func plain() []api.Record {
	return []api.Record{
		{Kind: api.RcBase, Index: 3, Term: 2, Conf: 7, Snap: []byte("snap")},
		{Kind: api.RcHard, Term: 3, Vote: 2},
		{Kind: api.RcEntry, Entry: api.Entry{Index: 4, Term: 2, Kind: 1, Data: []byte("ab")}},
		{Kind: api.RcCut, Index: 4},
	}
}

// foreign are, by a record's kind, what sets one field that it does not have.
func foreign(kind int) []func(r *api.Record) {
	term := func(r *api.Record) { r.Term = 1 }
	vote := func(r *api.Record) { r.Vote = 1 }
	index := func(r *api.Record) { r.Index = 1 }
	conf := func(r *api.Record) { r.Conf = 1 }
	snap := func(r *api.Record) { r.Snap = []byte{0} }
	entry := []func(r *api.Record){
		func(r *api.Record) { r.Entry.Index = 1 },
		func(r *api.Record) { r.Entry.Term = 1 },
		func(r *api.Record) { r.Entry.Kind = 1 },
		func(r *api.Record) { r.Entry.Data = []byte{0} },
		func(r *api.Record) { r.Entry.Index = -1 },
	}
	switch kind {
	case api.RcBase:
		return append(entry, vote)
	case api.RcHard:
		return append(entry, index, conf, snap)
	case api.RcEntry:
		return []func(r *api.Record){term, vote, index, conf, snap}
	case api.RcCut:
		return append(entry, term, vote, conf, snap)
	}
	return nil
}

// wrongRecords are records of which just one thing may not be.
func wrongRecords() []api.Record {
	l := []api.Record{
		{},
		{Kind: api.RcCut},
		{Kind: api.RcBase, Snap: make([]byte, maxSnap+1)},
		{Kind: api.RcBase, Snap: make([]byte, api.MaxFrame)},
	}
	for _, kind := range []int{least, -1, 0, 5, greatest} {
		l = append(l, api.Record{Kind: kind}, api.Record{Kind: kind, Index: 1}, api.Record{Kind: kind, Term: 1, Vote: 1})
	}
	for _, n := range []int{least, -1, top + 1, greatest} {
		l = append(l, api.Record{Kind: api.RcBase, Index: n}, api.Record{Kind: api.RcBase, Term: n},
			api.Record{Kind: api.RcHard, Term: n}, api.Record{Kind: api.RcCut, Index: n})
	}
	for _, conf := range []int{least, -1, 128, 255, greatest} {
		l = append(l, api.Record{Kind: api.RcBase, Conf: conf})
	}
	for _, vote := range []int{least, -1, 8, greatest} {
		l = append(l, api.Record{Kind: api.RcHard, Vote: vote})
	}
	for _, e := range wrongEntries() {
		l = append(l, api.Record{Kind: api.RcEntry, Entry: e})
	}
	for _, r := range plain() {
		for _, set := range foreign(r.Kind) {
			one := r
			set(&one)
			l = append(l, one)
		}
	}
	return l
}

// short is r told in a line.
func short(r api.Record) api.Record {
	r.Snap = r.Snap[:min(len(r.Snap), 9)]
	r.Entry.Data = r.Entry.Data[:min(len(r.Entry.Data), 9)]
	return r
}

// none tells whether r is the zero record.
func none(r api.Record) bool {
	return r.Kind == 0 && r.Term == 0 && r.Vote == 0 && r.Index == 0 && r.Conf == 0 && len(r.Snap) == 0 && noEntry(r.Entry)
}

// noEntry tells whether e is the zero entry.
func noEntry(e api.Entry) bool {
	return e.Index == 0 && e.Term == 0 && e.Kind == 0 && len(e.Data) == 0
}

// P11.1: which entries may be.
func TestEntry(t *testing.T) {
	for _, g := range goodEntries() {
		if !record.Entry(g.e) {
			t.Errorf("the entry %d, %d, %d, of %d bytes may not be", g.e.Index, g.e.Term, g.e.Kind, len(g.e.Data))
		}
	}
	for _, e := range wrongEntries() {
		if record.Entry(e) {
			t.Errorf("the entry %d, %d, %d, of %d bytes may be", e.Index, e.Term, e.Kind, len(e.Data))
		}
	}
}

// P11.1: which records may be; each field at its edges, and what its kind does
// not have.
func TestCheck(t *testing.T) {
	for _, g := range goodRecords() {
		if e := record.Check(g.r); e != api.OK {
			t.Errorf("%+v: %d", short(g.r), e)
		}
	}
	for _, r := range plain() {
		if e := record.Check(r); e != api.OK {
			t.Errorf("%+v: %d", r, e)
		}
	}
	for _, r := range wrongRecords() {
		if e := record.Check(r); e != api.ErrArg {
			t.Errorf("%+v: %d", short(r), e)
		}
	}
}

// P11.2: a record's bytes; none of one that may not be.
func TestEncode(t *testing.T) {
	for _, g := range goodRecords() {
		if b, e := record.Encode(g.r); string(b) != g.b || e != api.OK {
			t.Errorf("%+v: %x, %d", short(g.r), b[:min(len(b), 20)], e)
		}
	}
	for _, r := range wrongRecords() {
		if b, e := record.Encode(r); b != nil || e != api.ErrArg {
			t.Errorf("%+v: %x, %d", short(r), b, e)
		}
	}
}

// P11.2, P11.4: a record's bytes are read as the record.
func TestDecode(t *testing.T) {
	for _, g := range goodRecords() {
		if r, e := record.Decode([]byte(g.b)); !record.Same(r, g.r) || e != api.OK {
			t.Errorf("%+v: %+v, %d", short(g.r), short(r), e)
		}
	}
}

// P11.2: bytes that end too early, at each place.
func TestDecodeShort(t *testing.T) {
	for _, g := range goodRecords() {
		for end := range g.b {
			// Of a long one each place of its fields, and some of its text.
			if end > 20 && end < len(g.b)-3 && end != len(g.b)/2 {
				continue
			}
			if r, e := record.Decode([]byte(g.b[:end])); !none(r) || e != api.ErrShort {
				t.Errorf("the first %d bytes of %+v: %+v, %d", end, short(g.r), short(r), e)
			}
		}
	}
	if r, e := record.Decode(nil); !none(r) || e != api.ErrShort {
		t.Errorf("of nothing: %+v, %d", r, e)
	}
}

// P11.2: bytes behind a record.
func TestDecodeMore(t *testing.T) {
	for _, g := range goodRecords() {
		for _, behind := range []string{"\x00", "\x01", "\x80", "\xff", "more", g.b} {
			if r, e := record.Decode([]byte(g.b + behind)); !none(r) || e != api.ErrForm {
				t.Errorf("%+v and %d bytes: %+v, %d", short(g.r), len(behind), short(r), e)
			}
		}
	}
}

// P11.2, rule R7: the first error of bytes that no record are, from left to
// right; that it may not be is told behind these.
func TestDecodeWrong(t *testing.T) {
	nine := strings.Repeat("\xff", 9)
	for _, w := range []struct {
		b string
		e api.Errno
	}{
		{"\x00", api.ErrForm},
		{"\x00\x00", api.ErrForm},
		{"\x00\x80", api.ErrForm},
		{"\x05", api.ErrLong},
		{"\x05\x00\x00", api.ErrLong},
		{"\x81\x00", api.ErrLong},
		{"\x80", api.ErrForm},
		{"\x80\x01", api.ErrForm},
		{nine, api.ErrForm},
		{"\x81", api.ErrShort},
		// A base: Index, Term, Conf, Snap.
		{"\x01" + overBytes, api.ErrLong},
		{"\x01" + overBytes + "\x00\x00\x00", api.ErrLong},
		{"\x01\x80\x03", api.ErrForm},
		{"\x01" + nine, api.ErrForm},
		{"\x01\x00" + overBytes + "\x00\x00", api.ErrLong},
		{"\x01\x00\x80\x00\x00\x00", api.ErrForm},
		{"\x01\x00\x00\x81\x00\x00", api.ErrLong},
		{"\x01\x00\x00\x81\x00", api.ErrLong},
		{"\x01\x00\x00\x80\x7f\x00", api.ErrForm},
		{"\x01\x00\x00\x00\x88\x80\x01", api.ErrLong},
		{"\x01\x00\x00\x00\x88\x80\x01" + string(some(maxSnap+1)), api.ErrLong},
		{"\x01\x00\x00\x00\x80\x01a", api.ErrForm},
		{"\x01\x00\x00\x00\x02a", api.ErrShort},
		// A term and a vote.
		{"\x02" + overBytes + "\x00", api.ErrLong},
		{"\x02\x80\x00", api.ErrForm},
		{"\x02\x00\x08", api.ErrLong},
		{"\x02\x00\x80\x07", api.ErrForm},
		{"\x02\x00" + nine, api.ErrForm},
		// An entry: Index, Term, Kind, Data.
		{"\x03\x00\x00\x00\x00", api.ErrForm},
		{"\x03\x00\x00\x00\x00more", api.ErrForm},
		{"\x03\x00\x00\x00", api.ErrShort},
		{"\x03\x00\x00\x03\x00", api.ErrLong},
		{"\x03" + overBytes + "\x00\x00\x00", api.ErrLong},
		{"\x03\x80\x01\x00\x00\x00", api.ErrForm},
		{"\x03\x01" + overBytes + "\x00\x00", api.ErrLong},
		{"\x03\x01\x00\x03\x00", api.ErrLong},
		{"\x03\x01\x00\x80\x02\x00", api.ErrForm},
		{"\x03\x01\x00\x00\xa0\x01" + string(some(4097)), api.ErrLong},
		{"\x03\x01\x00\x00\xa0\x01", api.ErrLong},
		{"\x03\x01\x00\x00\xa0\x00" + string(some(4095)), api.ErrShort},
		{"\x03\x01\x00\x00\x80\x01a", api.ErrForm},
		// Where a cut begins.
		{"\x04\x00", api.ErrForm},
		{"\x04\x00\x00", api.ErrForm},
		{"\x04" + overBytes, api.ErrLong},
		{"\x04\x80\x01", api.ErrForm},
	} {
		if r, e := record.Decode([]byte(w.b)); !none(r) || e != w.e {
			t.Errorf("of %x: %+v, %d, not %d", w.b[:min(len(w.b), 20)], short(r), e, w.e)
		}
	}
}

// P11.2: an entry's bytes, behind others; just the others of one that may not be.
func TestPutEntry(t *testing.T) {
	for _, before := range []string{"", "x", "\x80\x80"} {
		for _, g := range goodEntries() {
			if b := record.PutEntry([]byte(before), g.e); string(b) != before+g.b {
				t.Errorf("%d bytes ahead, of entry %d: %x", len(before), g.e.Index, b[:min(len(b), 20)])
			}
		}
		for _, e := range wrongEntries() {
			if b := record.PutEntry([]byte(before), e); string(b) != before {
				t.Errorf("%d bytes ahead, of entry %d, %d, %d: %d bytes", len(before), e.Index, e.Term, e.Kind, len(b))
			}
		}
	}
	if b := record.PutEntry(nil, api.Entry{Index: 1}); string(b) != "\x01\x00\x00\x00" || len(record.PutEntry(nil, api.Entry{})) != 0 {
		t.Errorf("behind nil: %x", b)
	}
}

// P11.2: what was put is read, and what stands behind it is left.
func TestReadEntry(t *testing.T) {
	for _, behind := range []string{"", "\x00", "\x80", "\xff\xff", "behind"} {
		for _, g := range goodEntries() {
			r := pack.Open([]byte(g.b + behind))
			if e := record.ReadEntry(r); !record.SameEntry(e, g.e) || r.Err() != api.OK || r.Left() != len(behind) {
				t.Errorf("of entry %d: %d, error %d, %d left", g.e.Index, e.Index, r.Err(), r.Left())
			}
		}
	}
	var b []byte
	for _, g := range goodEntries() {
		b = record.PutEntry(b, g.e)
	}
	r := pack.Open(b)
	for _, g := range goodEntries() {
		if e := record.ReadEntry(r); !record.SameEntry(e, g.e) {
			t.Errorf("one behind the other: entry %d is %d", g.e.Index, e.Index)
		}
	}
	if r.End() != api.OK {
		t.Errorf("at the end: %d", r.End())
	}
}

// P11.2: bytes that no entry are: the zero entry, and nothing left.
func TestReadEntryWrong(t *testing.T) {
	wrong := []struct {
		b string
		e api.Errno
	}{
		{"", api.ErrShort},
		{"\x00\x00\x00\x00", api.ErrForm},
		{"\x00\x00\x00\x00behind", api.ErrForm},
		{"\x00\x00\x00\x01", api.ErrShort},
		{overBytes + "\x00\x00\x00", api.ErrLong},
		{"\x01" + overBytes + "\x00\x00", api.ErrLong},
		{"\x01\x00\x03\x00", api.ErrLong},
		{"\x01\x00\x02\xa0\x01" + string(some(4097)), api.ErrLong},
		{"\x80\x01\x00\x00\x00", api.ErrForm},
		{"\x01\x80\x00\x00\x00", api.ErrForm},
		{"\x01\x00\x80\x00\x00", api.ErrForm},
		{"\x01\x00\x00\x80\x00", api.ErrForm},
	}
	for _, g := range goodEntries() {
		for end := range min(len(g.b), 12) {
			wrong = append(wrong, struct {
				b string
				e api.Errno
			}{g.b[:end], api.ErrShort})
		}
	}
	for _, w := range wrong {
		r := pack.Open([]byte(w.b))
		if e := record.ReadEntry(r); !noEntry(e) || r.Err() != w.e || r.Left() != 0 {
			t.Errorf("of %x: entry %d, error %d, not %d, %d left", w.b[:min(len(w.b), 20)], e.Index, r.Err(), w.e, r.Left())
		}
	}
}

// P11.2, rule R5: an error of before stays; a reader that no call made.
func TestReadEntryBehindError(t *testing.T) {
	r := pack.Open([]byte("\x01\x00\x00\x00"))
	r.Fail(api.ErrLog)
	if e := record.ReadEntry(r); !noEntry(e) || r.Err() != api.ErrLog {
		t.Errorf("behind an error: %+v, %d", e, r.Err())
	}
	for _, r := range []*pack.Reader{nil, {}} {
		if e := record.ReadEntry(r); !noEntry(e) || r.Err() != api.ErrNil {
			t.Errorf("of no reader: %+v, %d", e, r.Err())
		}
	}
}

// P11.2: field by field, of entries that may not be, too.
func TestSameEntry(t *testing.T) {
	whole := api.Entry{Index: 1, Term: 2, Kind: 1, Data: []byte("ab")}
	if !record.SameEntry(whole, api.Entry{Index: 1, Term: 2, Kind: 1, Data: []byte("ab")}) {
		t.Error("it is not the same as itself")
	}
	if !record.SameEntry(api.Entry{}, api.Entry{Data: []byte{}}) || !record.SameEntry(api.Entry{Index: -1, Kind: 9}, api.Entry{Index: -1, Kind: 9}) {
		t.Error("no data and empty data, or such as may not be, are not the same")
	}
	for _, e := range []api.Entry{
		{},
		{Index: 2, Term: 2, Kind: 1, Data: []byte("ab")},
		{Index: 1, Term: 1, Kind: 1, Data: []byte("ab")},
		{Index: 2, Term: 1, Kind: 1, Data: []byte("ab")},
		{Index: 1, Term: 2, Kind: 2, Data: []byte("ab")},
		{Index: 1, Term: 2, Kind: 1},
		{Index: 1, Term: 2, Kind: 1, Data: []byte("a")},
		{Index: 1, Term: 2, Kind: 1, Data: []byte("ac")},
		{Index: 1, Term: 2, Kind: 1, Data: []byte("abc")},
	} {
		if record.SameEntry(whole, e) || record.SameEntry(e, whole) {
			t.Errorf("%+v is the same", e)
		}
	}
}

// P11.2: field by field, of records that may not be, too.
func TestSame(t *testing.T) {
	whole := func() api.Record {
		return api.Record{Kind: 1, Term: 2, Vote: 3, Entry: api.Entry{Index: 4, Term: 5, Kind: 2, Data: []byte("ab")}, Index: 6, Conf: 7, Snap: []byte("cd")}
	}
	if !record.Same(whole(), whole()) || !record.Same(api.Record{}, api.Record{Snap: []byte{}}) || !record.Same(api.Record{Kind: -1}, api.Record{Kind: -1}) {
		t.Error("the same are not")
	}
	for i, change := range []func(r *api.Record){
		func(r *api.Record) { r.Kind++ },
		func(r *api.Record) { r.Term++ },
		func(r *api.Record) { r.Vote-- },
		func(r *api.Record) { r.Entry.Index++ },
		func(r *api.Record) { r.Entry.Term-- },
		func(r *api.Record) { r.Entry.Kind = 0 },
		func(r *api.Record) { r.Entry.Data = nil },
		func(r *api.Record) { r.Entry.Data[1]++ },
		func(r *api.Record) { r.Index = 0 },
		func(r *api.Record) { r.Conf = -7 },
		func(r *api.Record) { r.Snap = r.Snap[:1] },
		func(r *api.Record) { r.Snap = append(r.Snap, 0) },
		func(r *api.Record) { r.Snap[0]-- },
		func(r *api.Record) { r.Term, r.Vote = r.Vote, r.Term },
		func(r *api.Record) { r.Snap, r.Entry.Data = r.Entry.Data, r.Snap },
	} {
		r := whole()
		change(&r)
		if record.Same(whole(), r) || record.Same(r, whole()) {
			t.Errorf("change %d: the same", i)
		}
	}
}

// P11.2: field by field, of states that may not be, too.
func TestSameSaved(t *testing.T) {
	whole := func() api.Saved {
		return api.Saved{Term: 1, Vote: 2, Base: 3, BaseTerm: 4, Conf: 7, Snap: []byte("cd"), Entries: entries(4, 5, 6)}
	}
	if !record.SameSaved(whole(), whole()) || !record.SameSaved(api.Saved{}, api.Saved{Snap: []byte{}, Entries: []api.Entry{}}) || !record.SameSaved(api.Saved{Base: -1}, api.Saved{Base: -1}) {
		t.Error("the same are not")
	}
	for i, change := range []func(s *api.Saved){
		func(s *api.Saved) { s.Term++ },
		func(s *api.Saved) { s.Vote = 0 },
		func(s *api.Saved) { s.Base-- },
		func(s *api.Saved) { s.BaseTerm++ },
		func(s *api.Saved) { s.Conf = 15 },
		func(s *api.Saved) { s.Term, s.Vote = s.Vote, s.Term },
		func(s *api.Saved) { s.Base, s.BaseTerm = s.BaseTerm, s.Base },
		func(s *api.Saved) { s.Snap = nil },
		func(s *api.Saved) { s.Snap[1]++ },
		func(s *api.Saved) { s.Entries = nil },
		func(s *api.Saved) { s.Entries = s.Entries[1:] },
		func(s *api.Saved) { s.Entries = s.Entries[:2] },
		func(s *api.Saved) { s.Entries = append(s.Entries, api.Entry{}) },
		func(s *api.Saved) { s.Entries[0].Term++ },
		func(s *api.Saved) { s.Entries[2].Data = nil },
		func(s *api.Saved) { s.Entries[1].Data[0]++ },
		func(s *api.Saved) { s.Entries[0], s.Entries[1] = s.Entries[1], s.Entries[0] },
	} {
		s := whole()
		change(&s)
		if record.SameSaved(whole(), s) || record.SameSaved(s, whole()) {
			t.Errorf("change %d: the same", i)
		}
	}
}

// entries are entries of these indexes.
func entries(indexes ...int) []api.Entry {
	var l []api.Entry
	for _, i := range indexes {
		l = append(l, api.Entry{Index: i, Term: 2, Kind: 1, Data: []byte{byte(i), 'd'}})
	}
	return l
}

// saved is a state of the base 3 with entries of these indexes.
func saved(indexes ...int) api.Saved {
	return api.Saved{Term: 5, Vote: 1, Base: 3, BaseTerm: 2, Conf: 7, Snap: []byte("snap"), Entries: entries(indexes...)}
}

// deep is s in memory of its own.
func deep(s api.Saved) api.Saved {
	s.Snap = slices.Clone(s.Snap)
	s.Entries = slices.Clone(s.Entries)
	for i := range s.Entries {
		s.Entries[i].Data = slices.Clone(s.Entries[i].Data)
	}
	return s
}

// applies looks whether Apply of s and r answers that state and that error.
func applies(t *testing.T, s api.Saved, r api.Record, want api.Saved, e api.Errno) {
	t.Helper()
	before := deep(s)
	if got, err := record.Apply(s, r); !record.SameSaved(got, want) || err != e {
		t.Errorf("Apply(%+v, %+v): %+v, %d, not %+v, %d", s, r, got, err, want, e)
	}
	if !record.SameSaved(s, before) {
		t.Errorf("Apply of %+v changed %+v", r, before)
	}
}

// refused looks whether Apply of s and r answers s, and that error.
func refused(t *testing.T, s api.Saved, r api.Record, e api.Errno) {
	t.Helper()
	applies(t, s, r, deep(s), e)
}

// P11.3: a base at what is saved and above it; the entries above it stay.
func TestApplyBase(t *testing.T) {
	for index, left := range map[int][]int{3: {4, 5, 6}, 4: {5, 6}, 5: {6}, 6: {}, 7: {}, 100: {}, top: {}} {
		r := api.Record{Kind: api.RcBase, Index: index, Term: 9, Conf: 15, Snap: []byte("newer")}
		want := api.Saved{Term: 5, Vote: 1, Base: index, BaseTerm: 9, Conf: 15, Snap: []byte("newer"), Entries: entries(left...)}
		applies(t, saved(4, 5, 6), r, want, api.OK)
		want.Entries = nil
		applies(t, saved(), r, want, api.OK)
	}
	zero := api.Record{Kind: api.RcBase}
	applies(t, api.Saved{}, zero, api.Saved{}, api.OK)
	applies(t, api.Saved{BaseTerm: 4, Conf: 7, Snap: []byte("old"), Entries: entries(1, 2)}, zero, api.Saved{Entries: entries(1, 2)}, api.OK)
	applies(t, api.Saved{Base: -5, Term: 2, Entries: entries(-4, 0, 1)}, zero, api.Saved{Term: 2, Entries: entries(1)}, api.OK)
}

// P11.3: a base below what is saved.
func TestApplyBaseBelow(t *testing.T) {
	for _, index := range []int{0, 1, 2} {
		refused(t, saved(4, 5), api.Record{Kind: api.RcBase, Index: index, Term: 2, Conf: 7}, api.ErrLog)
		refused(t, saved(), api.Record{Kind: api.RcBase, Index: index, Term: 2, Conf: 7}, api.ErrLog)
	}
	refused(t, api.Saved{Base: greatest}, api.Record{Kind: api.RcBase, Index: top}, api.ErrLog)
}

// P11.3: a term and a vote, and nothing else; they may fall, too.
func TestApplyHard(t *testing.T) {
	for _, hard := range [][2]int{{0, 0}, {3, 2}, {5, 1}, {6, 7}, {top, 0}} {
		want := saved(4, 5)
		want.Term, want.Vote = hard[0], hard[1]
		applies(t, saved(4, 5), api.Record{Kind: api.RcHard, Term: hard[0], Vote: hard[1]}, want, api.OK)
	}
}

// P11.3: the next entry, one too early and one too late, with entries and without.
func TestApplyEntry(t *testing.T) {
	of := func(index int) api.Record { return api.Record{Kind: api.RcEntry, Entry: entries(index)[0]} }
	applies(t, saved(), of(4), saved(4), api.OK)
	applies(t, saved(4, 5), of(6), saved(4, 5, 6), api.OK)
	for _, index := range []int{1, 2, 3, 5, 6, top} {
		refused(t, saved(), of(index), api.ErrLog)
	}
	for _, index := range []int{1, 3, 4, 5, 7, 8, top} {
		refused(t, saved(4, 5), of(index), api.ErrLog)
	}
	applies(t, api.Saved{}, of(1), api.Saved{Entries: entries(1)}, api.OK)
	refused(t, api.Saved{}, of(2), api.ErrLog)
	applies(t, api.Saved{Base: top - 1}, of(top), api.Saved{Base: top - 1, Entries: entries(top)}, api.OK)
	// The last entry counts, whatever the base is.
	applies(t, saved(9), of(10), saved(9, 10), api.OK)
	refused(t, saved(9), of(4), api.ErrLog)
	for _, last := range []int{least, -1, greatest} {
		refused(t, api.Saved{Base: last}, of(1), api.ErrLog)
		refused(t, saved(last), of(1), api.ErrLog)
	}
}

// P11.3: an entry's fields come as they are.
func TestApplyEntryWhole(t *testing.T) {
	for _, g := range goodEntries() {
		s := saved()
		s.Base = g.e.Index - 1
		want := deep(s)
		want.Entries = []api.Entry{g.e}
		got, e := record.Apply(s, api.Record{Kind: api.RcEntry, Entry: g.e})
		if e != api.OK || !record.SameSaved(got, want) {
			t.Errorf("entry %d: %d", g.e.Index, e)
		}
	}
}

// P11.3: a cut at the base, above it, in the midst and behind all.
func TestApplyCut(t *testing.T) {
	of := func(index int) api.Record { return api.Record{Kind: api.RcCut, Index: index} }
	for index, left := range map[int][]int{4: {}, 5: {4}, 6: {4, 5}, 7: {4, 5, 6}, 8: {4, 5, 6}, top: {4, 5, 6}} {
		applies(t, saved(4, 5, 6), of(index), saved(left...), api.OK)
		applies(t, saved(), of(index), saved(), api.OK)
	}
	for _, index := range []int{1, 2, 3} {
		refused(t, saved(4, 5, 6), of(index), api.ErrLog)
		refused(t, saved(), of(index), api.ErrLog)
	}
	applies(t, api.Saved{Entries: entries(1, 2)}, of(1), api.Saved{}, api.OK)
	refused(t, api.Saved{Base: top}, of(top), api.ErrLog)
}

// P11.3: a record that may not be; it is told ahead of what no log is.
func TestApplyWrong(t *testing.T) {
	for _, r := range wrongRecords() {
		for _, s := range []api.Saved{{}, saved(), saved(4, 5)} {
			got, e := record.Apply(s, r)
			if e != api.ErrArg || !record.SameSaved(got, s) {
				t.Errorf("Apply(%+v, %+v): %+v, %d", s, short(r), got, e)
			}
		}
	}
	for _, r := range []api.Record{
		{Kind: api.RcBase, Index: 1, Vote: 1},
		{Kind: api.RcBase, Index: 2, Conf: 128},
		{Kind: api.RcEntry, Entry: api.Entry{Index: 9, Kind: 3}},
		{Kind: api.RcCut, Index: 2, Term: 1},
	} {
		refused(t, saved(4), r, api.ErrArg)
	}
}

// spoil writes over all bytes and entries of s, and over the room behind them.
func spoil(s *api.Saved) {
	for i := range s.Entries {
		clear(s.Entries[i].Data[:cap(s.Entries[i].Data)])
	}
	clear(s.Entries[:cap(s.Entries)])
	clear(s.Snap[:cap(s.Snap)])
}

// P11.3, rule R3: what is answered shares nothing with what was handed in, nor
// with another answer; with an error neither.
func TestApplySharesNothing(t *testing.T) {
	for _, r := range append(plain(), api.Record{}, api.Record{Kind: api.RcCut, Index: 3}, api.Record{Kind: api.RcEntry, Entry: entries(7)[0]}) {
		for _, s := range []api.Saved{saved(), saved(4, 5, 6)} {
			r.Snap, r.Entry.Data = slices.Clone(r.Snap), slices.Clone(r.Entry.Data)
			before, kept := deep(s), r
			kept.Snap, kept.Entry.Data = slices.Clone(r.Snap), slices.Clone(r.Entry.Data)
			first, _ := record.Apply(s, r)
			second, _ := record.Apply(s, r)
			third := deep(second)
			spoil(&first)
			if !record.SameSaved(s, before) || !record.Same(r, kept) || !record.SameSaved(second, third) {
				t.Errorf("%+v: what is answered is shared", kept)
			}
			spoil(&s)
			clear(r.Snap)
			clear(r.Entry.Data)
			if !record.SameSaved(second, third) {
				t.Errorf("%+v: what was handed in is kept", kept)
			}
		}
	}
}

// Rule R3: an entry that comes into the room behind others changes none there.
func TestApplyLeavesRoom(t *testing.T) {
	s := saved(4, 5, 6)
	s.Entries = s.Entries[:2]
	got, e := record.Apply(s, api.Record{Kind: api.RcEntry, Entry: api.Entry{Index: 6, Term: 9}})
	if e != api.OK || got.Entries[2].Term != 9 || s.Entries[:3][2].Term != 2 {
		t.Errorf("%+v, %d; behind: %+v", got, e, s.Entries[:3])
	}
}

// Rule R3: bytes that are handed in stay, and are not in the answer.
func TestNothingShared(t *testing.T) {
	for _, r := range plain() {
		b, _ := record.Encode(r)
		kept := slices.Clone(b)
		one, _ := record.Decode(b)
		if !bytes.Equal(b, kept) {
			t.Errorf("Decode changed %x", kept)
		}
		clear(b)
		if again, _ := record.Encode(r); !record.Same(one, r) || !bytes.Equal(again, kept) {
			t.Errorf("%+v: shared", r)
		}
	}
	for _, e := range []api.Entry{entries(4)[0], {}} {
		room := []byte(strings.Repeat("room", 10))
		out := record.PutEntry(room[:3], e)
		clear(out[:cap(out)])
		if string(room) != strings.Repeat("room", 10) {
			t.Errorf("PutEntry of %+v changed %q", e, room)
		}
	}
}

// The chapter's example.
func TestExample(t *testing.T) {
	if b, e := record.Encode(api.Record{Kind: api.RcHard, Term: 3, Vote: 2}); string(b) != "\x02\x03\x02" || e != api.OK {
		t.Errorf("%x, %d", b, e)
	}
}

// random is a record of any kind, near what is saved; now and then it may not be.
func random(r *rand.Rand, s api.Saved) api.Record {
	near := s.Base + len(s.Entries) + r.Intn(5) - 2
	if r.Intn(3) == 0 {
		near = s.Base + r.Intn(7) - 2
	}
	data := some(r.Intn(4))
	switch r.Intn(9) {
	case 0:
		return api.Record{Kind: api.RcBase, Index: near, Term: r.Intn(5), Conf: r.Intn(130), Snap: data}
	case 1:
		return api.Record{Kind: api.RcHard, Term: r.Intn(5), Vote: r.Intn(9)}
	case 2:
		return api.Record{Kind: api.RcCut, Index: near}
	case 3:
		return api.Record{Kind: r.Intn(7) - 1, Index: near, Term: r.Intn(2)}
	}
	return api.Record{Kind: api.RcEntry, Entry: api.Entry{Index: near, Term: r.Intn(5), Kind: r.Intn(4), Data: data}}
}

// model is Apply, told in the plainest way.
func model(s api.Saved, r api.Record) (api.Saved, api.Errno) {
	if record.Check(r) != api.OK {
		return s, api.ErrArg
	}
	s = deep(s)
	low, high := least, greatest
	switch r.Kind {
	case api.RcBase:
		if r.Index < s.Base {
			return s, api.ErrLog
		}
		s.Base, s.BaseTerm, s.Conf, s.Snap = r.Index, r.Term, r.Conf, r.Snap
		low = r.Index + 1
	case api.RcHard:
		s.Term, s.Vote = r.Term, r.Vote
	case api.RcEntry:
		if r.Entry.Index != s.Base+len(s.Entries)+1 {
			return s, api.ErrLog
		}
		s.Entries = append(s.Entries, r.Entry)
	case api.RcCut:
		if r.Index <= s.Base {
			return s, api.ErrLog
		}
		high = r.Index - 1
	}
	var left []api.Entry
	for _, e := range s.Entries {
		if e.Index >= low && e.Index <= high {
			left = append(left, e)
		}
	}
	s.Entries = left
	return s, api.OK
}

// P11.3, P11.5: whatever records come, one behind the other, what is saved is
// as the plain model says, and its entries rise by one from the base on.
func TestApplyAgainstModel(t *testing.T) {
	codes := map[api.Errno]int{}
	for seed := range 80 {
		r := rand.New(rand.NewSource(int64(seed)))
		s := api.Saved{}
		for range 300 {
			x := random(r, s)
			want, e := model(s, x)
			got, err := record.Apply(s, x)
			if err != e || !record.SameSaved(got, want) {
				t.Fatalf("Apply(%+v, %+v): %+v, %d, not %+v, %d", s, x, got, err, want, e)
			}
			for i, entry := range got.Entries {
				if entry.Index != got.Base+1+i {
					t.Fatalf("behind %+v: %+v", x, got)
				}
			}
			s = got
			codes[err]++
		}
	}
	if codes[api.OK] < 1000 || codes[api.ErrLog] < 1000 || codes[api.ErrArg] < 1000 {
		t.Errorf("the plays are not of all kinds: %v", codes)
	}
}

// P11.2, P11.4: any bytes: what is taken may be, and has just those bytes.
func FuzzDecode(f *testing.F) {
	for _, g := range goodRecords() {
		f.Add([]byte(g.b[:min(len(g.b), 200)]))
	}
	f.Add([]byte("\x03\x00\x00\x00\x00"))
	f.Fuzz(func(t *testing.T, b []byte) {
		kept := slices.Clone(b)
		r, e := record.Decode(b)
		if !bytes.Equal(b, kept) {
			t.Errorf("%x was changed to %x", kept, b)
		}
		if e != api.OK {
			if !none(r) || e != api.ErrShort && e != api.ErrForm && e != api.ErrLong {
				t.Errorf("%x: %+v beside %d", b, r, e)
			}
			return
		}
		if again, e := record.Encode(r); e != api.OK || !bytes.Equal(again, b) || record.Check(r) != api.OK {
			t.Errorf("%x: %+v, whose bytes are %x, %d", b, r, again, e)
		}
	})
}
