package vault_test

import (
	"bytes"
	"math"
	"math/rand"
	"slices"
	"testing"

	"bailey/api"
	"bailey/disk"
	"bailey/frame"
	"bailey/pack"
	"bailey/record"
	"bailey/vault"
)

const (
	top      = api.MaxNum
	least    = math.MinInt
	greatest = math.MaxInt
	room     = 10000
)

// made is a disk of so many slots of that room.
func made(t *testing.T, slots, room int) *disk.Disk {
	t.Helper()
	d, e := disk.New(slots, room)
	if e != api.OK {
		t.Fatalf("disk.New(%d, %d): %d", slots, room, e)
	}
	return d
}

// hard, entry, cut and base are records of each kind.
func hard(term, vote int) api.Record { return api.Record{Kind: api.RcHard, Term: term, Vote: vote} }

func entry(index int) api.Record {
	return api.Record{Kind: api.RcEntry, Entry: api.Entry{Index: index, Term: index % 5, Kind: api.EnCommand, Data: pack.Num([]byte("data"), index)}}
}

func cut(index int) api.Record { return api.Record{Kind: api.RcCut, Index: index} }

func base(index int) api.Record {
	return api.Record{Kind: api.RcBase, Index: index, Term: 2, Conf: 7, Snap: []byte("snap")}
}

// saved is a state with entries from 4 to last.
func saved(last int) api.Saved {
	s := api.Saved{Term: 5, Vote: 1, Base: 3, BaseTerm: 2, Conf: 7, Snap: []byte("old")}
	for index := 4; index <= last; index++ {
		s.Entries = append(s.Entries, entry(index).Entry)
	}
	return s
}

// deep is s in new memory.
func deep(s api.Saved) api.Saved {
	s.Snap = slices.Clone(s.Snap)
	s.Entries = slices.Clone(s.Entries)
	for i := range s.Entries {
		s.Entries[i].Data = slices.Clone(s.Entries[i].Data)
	}
	return s
}

// head is the records that say s, as the chapter lists them.
func head(s api.Saved) []api.Record {
	l := []api.Record{{Kind: api.RcBase, Index: s.Base, Term: s.BaseTerm, Conf: s.Conf, Snap: s.Snap}, hard(s.Term, s.Vote)}
	for _, e := range s.Entries {
		l = append(l, api.Record{Kind: api.RcEntry, Entry: e})
	}
	return l
}

// sealed is b's frame.
func sealed(b []byte) []byte {
	f, e := frame.Seal(b)
	if e != api.OK {
		panic(e)
	}
	return f
}

// framed is the frames of these records.
func framed(l ...api.Record) []byte {
	var out []byte
	for _, r := range l {
		b, e := record.Encode(r)
		if e != api.OK {
			panic(e)
		}
		out = append(out, sealed(b)...)
	}
	return out
}

// slot is a slot's bytes: that generation, so many records as its head, and records.
func slot(generation, head int, l ...api.Record) []byte {
	return slices.Concat(sealed(pack.Num(pack.Num(nil, generation), head)), framed(l...))
}

// laid is a disk whose slots have these bytes, which are sure.
func laid(t *testing.T, slots ...[]byte) *disk.Disk {
	t.Helper()
	d := made(t, len(slots), room)
	for i, b := range slots {
		if e := d.Append(i, b); e != api.OK {
			t.Fatalf("lay %d bytes: %d", len(b), e)
		}
	}
	d.Sync()
	return d
}

// holds looks whether the disk's two slots have just these bytes.
func holds(t *testing.T, what string, d *disk.Disk, one, two []byte) {
	t.Helper()
	for i, want := range [][]byte{one, two} {
		if b, e := d.Read(i); !bytes.Equal(b, want) || e != api.OK {
			t.Errorf("%s: slot %d has %x, %d, not %x", what, i, b, e, want)
		}
	}
}

// says looks whether Open of d says want, and answers the vault.
func says(t *testing.T, what string, d *disk.Disk, begin, want api.Saved) *vault.Vault {
	t.Helper()
	v, s, e := vault.Open(d, begin)
	if e != api.OK || !record.SameSaved(s, want) {
		t.Fatalf("%s: Open says %+v, %d, not %+v", what, s, e, want)
	}
	if v == nil || v.Turning() || v.Stopped() {
		t.Fatalf("%s: turning %v, stopped %v", what, v.Turning(), v.Stopped())
	}
	return v
}

// refuses looks whether Open answers that error, and leaves d as it was.
func refuses(t *testing.T, what string, d *disk.Disk, begin api.Saved, want api.Errno) {
	t.Helper()
	was := d.Copy()
	v, s, e := vault.Open(d, begin)
	if v != nil || !record.SameSaved(s, api.Saved{}) || e != want {
		t.Errorf("%s: Open says %+v, %d, not %d", what, s, e, want)
	}
	for i := range d.Slots() {
		now, _ := d.Read(i)
		if b, _ := was.Read(i); !bytes.Equal(b, now) || d.Loose() != was.Loose() {
			t.Errorf("%s: the slot %d has changed", what, i)
		}
	}
}

// does looks whether a call answered OK.
func does(t *testing.T, what string, e api.Errno) {
	t.Helper()
	if e != api.OK {
		t.Fatalf("%s: %d", what, e)
	}
}

// after is what Apply makes of the records behind s.
func after(s api.Saved, l ...api.Record) api.Saved {
	for _, r := range l {
		s, _ = record.Apply(s, r)
	}
	return s
}

// P14.2: no disk, and disks of another number of slots.
func TestOpenNoDisk(t *testing.T) {
	for _, begin := range []api.Saved{{}, saved(5), {Conf: 128}} {
		if v, s, e := vault.Open(nil, begin); v != nil || !record.SameSaved(s, api.Saved{}) || e != api.ErrNil {
			t.Errorf("no disk: %+v, %d", s, e)
		}
		refuses(t, "a disk without slots", &disk.Disk{}, begin, api.ErrArg)
		for _, slots := range []int{1, 3, 16} {
			d := made(t, slots, room)
			d.Append(0, slot(1, 2, head(saved(4))...))
			refuses(t, "another number of slots", d, begin, api.ErrArg)
		}
	}
}

// P14.1, P14.2: without a whole slot the disk has the head of begin, for sure.
func TestOpenEmpty(t *testing.T) {
	for _, begin := range []api.Saved{{}, {Conf: 7}, saved(3), saved(4), saved(20), {Term: top, Vote: 7, Base: top, BaseTerm: top, Conf: 127}} {
		d := made(t, 2, room)
		v := says(t, "empty", d, begin, begin)
		want := slot(1, 2+len(begin.Entries), head(begin)...)
		holds(t, "empty", d, want, nil)
		if d.Loose() != 0 || v.Size() != len(want) {
			t.Errorf("loose %d, size %d, not %d", d.Loose(), v.Size(), len(want))
		}
		d.Crash(nil)
		says(t, "opened again", d, saved(9), begin)
		holds(t, "opened again", d, want, nil)
	}
}

// P14.2: begin with a record that may not be, and a disk without room: nothing
// has changed, whatever the disk has.
func TestOpenRefuses(t *testing.T) {
	junk := func() *disk.Disk { return laid(t, []byte("junk"), slot(0, 2, head(saved(4))...)) }
	for _, begin := range wrongSaved() {
		refuses(t, "a record may not be", made(t, 2, room), begin, api.ErrArg)
		refuses(t, "a record may not be, junk", junk(), begin, api.ErrArg)
		// What may not be is told ahead of the room.
		refuses(t, "a record may not be, no room", made(t, 2, 0), begin, api.ErrArg)
		// Nobody looks at it where a slot is whole.
		says(t, "a whole slot", laid(t, slot(1, 3, head(saved(4))...), nil), begin, saved(4))
	}
	need := len(slot(1, 5, head(saved(6))...))
	for _, has := range []int{0, 1, 5, need - 1} {
		refuses(t, "no room", made(t, 2, has), saved(6), api.ErrFull)
	}
	d := made(t, 2, 20)
	d.Append(0, []byte("junk"))
	d.Append(1, []byte("more"))
	refuses(t, "no room, junk", d, saved(6), api.ErrFull)
	says(t, "just enough room", made(t, 2, need), saved(6), saved(6))
}

// wrongSaved are states of which a record of the head may not be.
func wrongSaved() []api.Saved {
	l := []api.Saved{
		{Term: -1}, {Term: top + 1}, {Vote: -1}, {Vote: 8}, {Base: -1}, {Base: top + 1},
		{BaseTerm: -1}, {BaseTerm: top + 1}, {Conf: -1}, {Conf: 128}, {Snap: make([]byte, 1<<17+1)},
	}
	for _, e := range []api.Entry{{}, {Index: top + 1}, {Index: 6, Term: -1}, {Index: 6, Kind: 3}, {Index: 6, Data: make([]byte, api.MaxEntry+1)}} {
		s := saved(5)
		s.Entries = append(s.Entries, e)
		l = append(l, s)
		s.Entries = append([]api.Entry{e}, s.Entries...)
		l = append(l, s)
	}
	return l
}

// P14.2: bytes of which no slot is whole, or not all of its head is good.
func TestOpenNothingWhole(t *testing.T) {
	s := saved(6)
	good := framed(head(s)...)
	number := func(l ...int) []byte {
		var b []byte
		for _, n := range l {
			b = pack.Num(b, n)
		}
		return slices.Concat(sealed(b), good)
	}
	rotten := slot(1, 5, head(s)...)
	rotten[len(rotten)-1] ^= 1
	first := slot(1, 5, head(s)...)
	first[1] ^= 2
	for what, b := range map[string][]byte{
		"nothing":                 nil,
		"junk":                    []byte("junk"),
		"records alone":           good,
		"generation 0":            number(0, 5),
		"a generation above 2^31": number(top+1, 5),
		"the greatest generation": number(greatest, 5),
		"head 0":                  number(1, 0),
		"head 1":                  number(1, 1),
		"head above 2^31":         number(1, top+1),
		"one number":              number(1),
		"no number":               number(),
		"a third number":          number(1, 5, 0),
		"a number in two bytes":   slices.Concat(sealed([]byte{0x80, 1, 5}), good),
		"a head in two bytes":     slices.Concat(sealed([]byte{1, 0x80, 5}), good),
		"a number that ends":      slices.Concat(sealed([]byte{1, 0x85}), good),
		"one record too few":      number(1, 6),
		"many records too few":    number(1, top),
		"the last one rotten":     rotten,
		"the first frame rotten":  first,
		"no record at the end":    slices.Concat(slot(1, 5, head(s)[:4]...), sealed([]byte("none"))),
		"no record in the middle": slices.Concat(slot(1, 5, head(s)[:2]...), sealed(nil), framed(head(s)[2:]...)),
		"it may not follow":       slot(1, 5, append(head(s)[:4:4], entry(9))...),
		"no entry may follow":     slot(1, 3, base(3), hard(1, 1), entry(5)),
		"a cut at the base":       slot(1, 3, base(3), hard(1, 1), cut(3)),
		"a base that falls":       slot(1, 2, base(3), base(2)),
	} {
		for _, d := range []*disk.Disk{laid(t, b, nil), laid(t, nil, b), laid(t, b, b), laid(t, []byte("junk"), b)} {
			begin := saved(4)
			says(t, what, d, begin, begin)
			holds(t, what, d, slot(1, 3, head(begin)...), nil)
			if d.Loose() != 0 {
				t.Errorf("%s: loose %d", what, d.Loose())
			}
		}
	}
}

// P14.2: each beginning of a slot's bytes: it is whole from the end of the head
// on, and it is cut to whole frames.
func TestOpenBeginnings(t *testing.T) {
	s := saved(5)
	behind := []api.Record{hard(6, 2), entry(6), cut(5), entry(5)}
	all := slot(9, 4, append(head(s), behind...)...)
	headSize := len(slot(9, 4, head(s)...))
	for size := range len(all) + 1 {
		for at := range 2 {
			d := made(t, 2, room)
			d.Append(at, all[:size])
			d.Append(1-at, []byte("junk"))
			d.Sync()
			if size < headSize {
				says(t, "a beginning of the head", d, api.Saved{Conf: 3}, api.Saved{Conf: 3})
				holds(t, "a beginning of the head", d, slot(1, 2, head(api.Saved{Conf: 3})...), nil)
				continue
			}
			whole := 0
			for whole < len(behind) && headSize+len(framed(behind[:whole+1]...)) <= size {
				whole++
			}
			v := says(t, "a beginning", d, api.Saved{Conf: 3}, after(s, behind[:whole]...))
			left := [][]byte{nil, nil}
			left[at] = slot(9, 4, append(head(s), behind[:whole]...)...)
			holds(t, "a beginning", d, left[0], left[1])
			if v.Size() != len(left[at]) || d.Loose() != 0 {
				t.Fatalf("size %d, not %d; loose %d", v.Size(), len(left[at]), d.Loose())
			}
		}
	}
}

// P14.1: what a slot says is what Apply makes of its records, also of many.
func TestOpenMany(t *testing.T) {
	for seed := range 100 {
		r := rand.New(rand.NewSource(int64(seed)))
		s, l := api.Saved{}, []api.Record{base(3), hard(1, 1)}
		s = after(s, l...)
		for range 60 {
			one := []api.Record{entry(s.Base + len(s.Entries) + 1), entry(s.Base + len(s.Entries) + 1), hard(r.Intn(9), r.Intn(8)), cut(s.Base + 1 + r.Intn(9)), base(s.Base + r.Intn(6))}[r.Intn(5)]
			l, s = append(l, one), after(s, one)
			says(t, "many", laid(t, nil, slot(1, 2, l...)), api.Saved{}, s)
			says(t, "many in the head", laid(t, slot(1, len(l), l...), nil), api.Saved{}, s)
		}
	}
}

// P14.2: a slot that is full of entries, which are as many as can be.
func TestOpenFullSlot(t *testing.T) {
	d := made(t, 2, api.MaxSlot)
	v := says(t, "begin", d, api.Saved{}, api.Saved{})
	want := 0
	for v.Write(api.Record{Kind: api.RcEntry, Entry: api.Entry{Index: want + 1, Term: 1}}) == api.OK {
		want++
	}
	_, s, e := vault.Open(d, api.Saved{})
	if e != api.OK || len(s.Entries) != want || want < 40000 || s.Entries[want-1].Index != want {
		t.Errorf("%d entries of %d, %d", len(s.Entries), want, e)
	}
}

// P14.1, P14.2: the head alone counts for whether the slot is whole; what
// stands behind is good up to a frame that is no record, or may not follow.
func TestOpenGoodBehindHead(t *testing.T) {
	s := saved(5)
	rotten := framed(hard(9, 1))
	rotten[2] ^= 1
	tooMuch, _ := record.Encode(hard(9, 1))
	for what, bad := range map[string][]byte{
		"no record":            sealed([]byte("none")),
		"an empty frame":       sealed(nil),
		"a record and more":    sealed(append(tooMuch, 0)),
		"a rotten frame":       rotten,
		"no frame":             []byte("junk"),
		"an entry too early":   framed(entry(6)),
		"an entry too late":    framed(entry(8)),
		"a cut at the base":    framed(cut(3)),
		"a base that falls":    framed(base(2)),
		"another slot's bytes": slot(2, 2, head(saved(3))...),
	} {
		good := slot(7, 4, append(head(s), hard(6, 0), entry(6))...)
		d := laid(t, []byte("junk"), slices.Concat(good, bad, framed(hard(8, 3), entry(7))))
		v := says(t, what, d, api.Saved{}, after(s, hard(6, 0), entry(6)))
		holds(t, what, d, nil, good)
		if v.Size() != len(good) {
			t.Errorf("%s: size %d, not %d", what, v.Size(), len(good))
		}
		does(t, "Write", v.Write(entry(7)))
		does(t, "Sync", v.Sync())
		says(t, what+", gone on", d, api.Saved{}, after(s, hard(6, 0), entry(6), entry(7)))
	}
	// The head is what it is told to be, not what Compact makes of a state.
	odd := []api.Record{entry(1), base(1), hard(4, 4), cut(2), entry(2)}
	for n := 2; n <= len(odd); n++ {
		says(t, "another head", laid(t, slot(1, n, odd...), nil), saved(9), after(api.Saved{}, odd...))
	}
	says(t, "the greatest generation", laid(t, nil, slot(top, 2, head(saved(3))...)), saved(9), saved(3))
}

// P14.2: of two whole slots the one with the greatest generation, of two alike
// the slot 0; a slot that is not whole doesn't count, whatever it says.
func TestOpenTwo(t *testing.T) {
	one, two := saved(4), saved(6)
	for _, g := range [][3]int{{1, 2, 1}, {2, 1, 0}, {1, 1, 0}, {top, top, 0}, {top - 1, top, 1}, {127, 128, 1}, {300, 128, 0}, {top, 1, 0}} {
		a, b := slot(g[0], 3, head(one)...), slot(g[1], 5, head(two)...)
		d := laid(t, a, b)
		if g[2] == 0 {
			says(t, "the slot 0", d, api.Saved{}, one)
			holds(t, "the slot 0", d, a, nil)
		} else {
			says(t, "the slot 1", d, api.Saved{}, two)
			holds(t, "the slot 1", d, nil, b)
		}
	}
	older := slot(1, 3, head(one)...)
	for _, no := range [][]byte{slot(2, 6, head(two)...), slot(top+1, 5, head(two)...), slot(2, 1, head(two)...), slot(2, 3, base(3), hard(1, 1), entry(5))} {
		d := laid(t, older, no)
		says(t, "the newer one is not whole", d, api.Saved{}, one)
		holds(t, "the newer one is not whole", d, older, nil)
		d = laid(t, no, older)
		says(t, "the newer one is not whole", d, api.Saved{}, one)
		holds(t, "the newer one is not whole", d, nil, older)
	}
	// What is behind the head is of no weight for the choice.
	d := laid(t, slot(2, 2, head(saved(3))...), slot(1, 2, append(head(saved(3)), hard(9, 1), entry(4))...))
	says(t, "the longer one is older", d, api.Saved{}, saved(3))
}

// P14.3: records stand one behind the other in the slot that is gone on in.
func TestWrite(t *testing.T) {
	d := made(t, 2, room)
	begin := saved(5)
	v := says(t, "begin", d, begin, begin)
	want := slot(1, 4, head(begin)...)
	var l []api.Record
	for _, r := range []api.Record{hard(6, 0), entry(6), entry(7), cut(7), base(6), entry(7), hard(7, 7)} {
		does(t, "Write", v.Write(r))
		l = append(l, r)
		want = append(want, framed(r)...)
		holds(t, "Write", d, want, nil)
		if v.Size() != len(want) || d.Loose() != len(framed(l...)) || v.Turning() || v.Stopped() {
			t.Errorf("size %d, loose %d", v.Size(), d.Loose())
		}
	}
	does(t, "Sync", v.Sync())
	holds(t, "Sync", d, want, nil)
	if d.Loose() != 0 || v.Turning() {
		t.Errorf("loose %d", d.Loose())
	}
	says(t, "again", d, api.Saved{}, after(begin, l...))
}

// P14.3: a record that may not be.
func TestWriteWrong(t *testing.T) {
	d := made(t, 2, room)
	v := says(t, "begin", d, saved(5), saved(5))
	want := slot(1, 4, head(saved(5))...)
	for _, r := range []api.Record{
		{}, {Kind: 5}, {Kind: -1}, hard(-1, 0), hard(top+1, 0), hard(1, 8), hard(1, -1), cut(0), cut(top + 1), base(-1),
		{Kind: api.RcHard, Index: 1}, {Kind: api.RcEntry}, {Kind: api.RcEntry, Entry: api.Entry{Index: 6, Kind: 3}},
		{Kind: api.RcBase, Index: 3, Conf: 128}, {Kind: api.RcBase, Snap: make([]byte, 1<<17+1)},
	} {
		if e := v.Write(r); e != api.ErrArg {
			t.Errorf("Write of %d: %d", r.Kind, e)
		}
		holds(t, "nothing written", d, want, nil)
		if v.Stopped() {
			t.Fatal("stopped")
		}
	}
	// That it may not follow is not looked at; what stands behind it is lost.
	does(t, "Write of what may not follow", v.Write(entry(9)))
	does(t, "Write behind it", v.Write(entry(6)))
	does(t, "Sync", v.Sync())
	says(t, "again", d, api.Saved{}, saved(5))
}

// down looks whether a vault that has stopped takes nothing, whatever it is.
func down(t *testing.T, what string, v *vault.Vault, d *disk.Disk) {
	t.Helper()
	was, size := d.Copy(), v.Size()
	for _, r := range []api.Record{hard(1, 1), {}} {
		if e := v.Write(r); e != api.ErrDown {
			t.Errorf("%s: Write: %d", what, e)
		}
	}
	for _, s := range []api.Saved{{}, saved(4), {Conf: 128}} {
		if e := v.Compact(s); e != api.ErrDown {
			t.Errorf("%s: Compact: %d", what, e)
		}
	}
	if e := v.Sync(); e != api.ErrDown || !v.Stopped() || v.Size() != size {
		t.Errorf("%s: Sync: %d, stopped %v", what, e, v.Stopped())
	}
	one, _ := was.Read(0)
	two, _ := was.Read(1)
	holds(t, what, d, one, two)
	if d.Loose() != was.Loose() {
		t.Errorf("%s: loose %d, not %d", what, d.Loose(), was.Loose())
	}
}

// P14.3: a slot that is just full, and one byte less of room.
func TestWriteFull(t *testing.T) {
	begin, r := saved(4), entry(5)
	start := slot(1, 3, head(begin)...)
	need := len(start) + len(framed(r))
	for has := len(start); has < need; has++ {
		d := made(t, 2, has)
		v := says(t, "begin", d, begin, begin)
		if e := v.Write(api.Record{}); e != api.ErrArg || v.Stopped() {
			t.Fatalf("what may not be is told first: %d", e)
		}
		if e := v.Write(r); e != api.ErrFull {
			t.Errorf("room %d: %d", has, e)
		}
		holds(t, "full", d, start, nil)
		down(t, "full", v, d)
		if v.Turning() || v.Size() != len(start) {
			t.Errorf("turning %v, size %d", v.Turning(), v.Size())
		}
		d.Crash(nil)
		says(t, "full, opened again", d, api.Saved{}, begin)
	}
	d := made(t, 2, need)
	v := says(t, "begin", d, begin, begin)
	does(t, "Write", v.Write(r))
	if e := v.Write(hard(0, 0)); e != api.ErrFull {
		t.Errorf("full: %d", e)
	}
	// What was not sure ahead of it stays not sure.
	down(t, "full", v, d)
	d.Crash(nil)
	says(t, "full, opened again", d, api.Saved{}, begin)
}

// P14.3: the other slot has the head of the state, and is gone on in; the slot
// ahead stays until it is sure.
func TestCompact(t *testing.T) {
	d := made(t, 2, room)
	v := says(t, "begin", d, saved(5), saved(5))
	does(t, "Write", v.Write(entry(6)))
	old := slot(1, 4, append(head(saved(5)), entry(6))...)
	next := saved(8)
	next.Base, next.Entries = 6, next.Entries[3:]
	does(t, "Compact", v.Compact(next))
	fresh := slot(2, 4, head(next)...)
	holds(t, "turning", d, old, fresh)
	if !v.Turning() || v.Stopped() || v.Size() != len(fresh) || d.Loose() != len(framed(entry(6)))+len(fresh) {
		t.Errorf("turning %v, size %d, loose %d", v.Turning(), v.Size(), d.Loose())
	}
	does(t, "Write", v.Write(entry(9)))
	fresh = append(fresh, framed(entry(9))...)
	holds(t, "turning, written", d, old, fresh)
	does(t, "Sync", v.Sync())
	holds(t, "turned", d, nil, fresh)
	if v.Turning() || v.Size() != len(fresh) || d.Loose() != 0 {
		t.Errorf("turning %v, size %d, loose %d", v.Turning(), v.Size(), d.Loose())
	}
	does(t, "Write", v.Write(hard(9, 3)))
	holds(t, "gone on", d, nil, append(fresh, framed(hard(9, 3))...))
	does(t, "Sync", v.Sync())
	says(t, "again", d, api.Saved{}, after(next, entry(9), hard(9, 3)))
}

// P14.3: again and again, from slot to slot, each with the next generation;
// also when it is opened between.
func TestCompactGenerations(t *testing.T) {
	d := made(t, 2, room)
	v := says(t, "begin", d, saved(4), saved(4))
	for generation := 2; generation < 300; generation++ {
		s := saved(3 + generation%5)
		does(t, "Compact", v.Compact(s))
		does(t, "Sync", v.Sync())
		want := [][]byte{nil, nil}
		want[(generation+1)%2] = slot(generation, 2+len(s.Entries), head(s)...)
		holds(t, "compacted", d, want[0], want[1])
		if generation%3 == 0 {
			v = says(t, "again", d, api.Saved{}, s)
			holds(t, "again", d, want[0], want[1])
		}
	}
}

// P14.3: not twice without a Sync; that is told ahead of a state that may not be.
func TestCompactBusy(t *testing.T) {
	d := made(t, 2, room)
	v := says(t, "begin", d, saved(4), saved(4))
	does(t, "Compact", v.Compact(saved(6)))
	for _, s := range []api.Saved{saved(7), {}, {Conf: 128}} {
		if e := v.Compact(s); e != api.ErrBusy {
			t.Errorf("twice: %d", e)
		}
	}
	holds(t, "twice", d, slot(1, 3, head(saved(4))...), slot(2, 5, head(saved(6))...))
	if !v.Turning() || v.Stopped() {
		t.Error("twice")
	}
	does(t, "Sync", v.Sync())
	does(t, "Compact", v.Compact(saved(5)))
	holds(t, "once more", d, slot(3, 4, head(saved(5))...), slot(2, 5, head(saved(6))...))
}

// P14.3: a state of which a record may not be.
func TestCompactWrong(t *testing.T) {
	start := slot(1, 3, head(saved(4))...)
	for _, has := range []int{room, len(start)} {
		d := made(t, 2, has)
		v := says(t, "begin", d, saved(4), saved(4))
		for _, s := range wrongSaved() {
			if e := v.Compact(s); e != api.ErrArg || v.Turning() || v.Stopped() || v.Size() != len(start) {
				t.Errorf("room %d: %d, turning %v, stopped %v", has, e, v.Turning(), v.Stopped())
			}
			holds(t, "nothing compacted", d, start, nil)
		}
	}
}

// P14.3: a state for which the other slot has no room: what is there stays.
func TestCompactFull(t *testing.T) {
	begin, s := saved(4), saved(9)
	start, need := slot(1, 3, head(begin)...), len(slot(2, 8, head(s)...))
	for has := len(start) + 20; has < need; has++ {
		d := made(t, 2, has)
		v := says(t, "begin", d, begin, begin)
		does(t, "Write", v.Write(hard(9, 2)))
		if e := v.Compact(s); e != api.ErrFull || v.Turning() || !v.Stopped() {
			t.Errorf("room %d: %d, turning %v, stopped %v", has, e, v.Turning(), v.Stopped())
		}
		holds(t, "no room", d, append(slices.Clone(start), framed(hard(9, 2))...), nil)
		down(t, "no room", v, d)
		d.Crash([]int{99})
		says(t, "no room, opened again", d, api.Saved{}, after(begin, hard(9, 2)))
	}
	d := made(t, 2, need)
	v := says(t, "begin", d, begin, begin)
	does(t, "Compact", v.Compact(s))
	if e := v.Write(hard(1, 1)); e != api.ErrFull || !v.Turning() {
		t.Errorf("full while it turns: %d", e)
	}
	down(t, "full while it turns", v, d)
	d.Crash(nil)
	says(t, "full while it turns, opened again", d, api.Saved{}, begin)
}

// P14.3, P14.5: behind the last generation there is none; what is there stays.
func TestCompactLastGeneration(t *testing.T) {
	for at := range 2 {
		d := made(t, 2, room)
		d.Append(at, slot(top-1, 3, head(saved(4))...))
		d.Sync()
		v := says(t, "the last but one", d, api.Saved{}, saved(4))
		for last := 5; last < 10; last++ {
			does(t, "Compact", v.Compact(saved(last)))
			// Either of them is whole: it may be the one ahead or the next one.
			for _, keeps := range [][]int{nil, {1 << 20}} {
				one := d.Copy()
				one.Crash(keeps)
				if _, s, e := vault.Open(one, api.Saved{}); e != api.OK || !record.SameSaved(s, saved(last)) && !record.SameSaved(s, saved(last-1)) {
					t.Errorf("last %d, crashed: %+v, %d", last, s, e)
				}
			}
			does(t, "Sync", v.Sync())
			d.Crash(nil)
			v = says(t, "opened again", d, api.Saved{}, saved(last))
		}
	}
}

// P14.4, rule R5: a vault that no call made.
func TestNoVault(t *testing.T) {
	for _, v := range []*vault.Vault{nil, {}} {
		for _, r := range []api.Record{{}, hard(1, 1)} {
			if e := v.Write(r); e != api.ErrNil {
				t.Errorf("Write: %d", e)
			}
		}
		for _, s := range []api.Saved{{}, saved(4), {Conf: 128}} {
			if e := v.Compact(s); e != api.ErrNil {
				t.Errorf("Compact: %d", e)
			}
		}
		if e := v.Sync(); e != api.ErrNil {
			t.Errorf("Sync: %d", e)
		}
		if v.Size() != 0 || v.Turning() || !v.Stopped() {
			t.Error("no vault has something")
		}
	}
}

// The chapter's example.
func TestExample(t *testing.T) {
	d := made(t, 2, room)
	v := says(t, "begin", d, api.Saved{}, api.Saved{})
	does(t, "Write", v.Write(hard(3, 1)))
	does(t, "Sync", v.Sync())
	does(t, "Write", v.Write(hard(4, 2)))
	d.Crash(nil)
	says(t, "crashed", d, api.Saved{}, api.Saved{Term: 3, Vote: 1})
}

// spoil writes over all bytes and entries of s, and over the room behind them.
func spoil(s *api.Saved) {
	for i := range s.Entries {
		clear(s.Entries[i].Data[:cap(s.Entries[i].Data)])
	}
	clear(s.Entries[:cap(s.Entries)])
	clear(s.Snap[:cap(s.Snap)])
}

// Rule R3: what is handed in is not changed and not kept, and what is answered
// is not shared.
func TestNothingShared(t *testing.T) {
	begin := saved(6)
	d := made(t, 2, room)
	v, s, e := vault.Open(d, begin)
	does(t, "Open", e)
	spoil(&s)
	if !record.SameSaved(begin, saved(6)) {
		t.Errorf("begin became %+v", begin)
	}
	_, s, _ = vault.Open(made(t, 2, room), begin)
	spoil(&begin)
	if !record.SameSaved(s, saved(6)) {
		t.Errorf("what was said became %+v", s)
	}
	one := entry(7)
	does(t, "Write", v.Write(one))
	clear(one.Entry.Data)
	next := saved(8)
	does(t, "Compact", v.Compact(next))
	if !record.SameSaved(next, saved(8)) {
		t.Errorf("the state became %+v", next)
	}
	spoil(&next)
	want := slot(1, 5, append(head(saved(6)), entry(7))...)
	holds(t, "spoilt", d, want, slot(2, 7, head(saved(8))...))
	does(t, "Sync", v.Sync())
	first, _ := openSaid(t, d.Copy())
	second, _ := openSaid(t, d.Copy())
	spoil(&first)
	if !record.SameSaved(second, saved(8)) {
		t.Errorf("two answers: %+v", second)
	}
}

// openSaid is what Open says of d, and its vault.
func openSaid(t *testing.T, d *disk.Disk) (api.Saved, *vault.Vault) {
	t.Helper()
	v, s, e := vault.Open(d, api.Saved{Conf: 127, Term: 99})
	does(t, "Open", e)
	return s, v
}

// play is a vault with what was written, state behind state, of which the first
// ones are sure.
type play struct {
	d      *disk.Disk
	v      *vault.Vault
	states []api.Saved
	sure   int
}

// last is the state behind all that was written.
func (p *play) last() api.Saved { return p.states[len(p.states)-1] }

// write writes r, if it may follow.
func (p *play) write(t *testing.T, r api.Record) {
	t.Helper()
	next, e := record.Apply(p.last(), r)
	if e != api.OK {
		return
	}
	does(t, "Write", p.v.Write(r))
	p.states = append(p.states, next)
}

// compact brings the base up by so many entries.
func (p *play) compact(t *testing.T, by int) {
	t.Helper()
	s := deep(p.last())
	if by > len(s.Entries) {
		return
	}
	if by > 0 {
		s.Base, s.BaseTerm = s.Entries[by-1].Index, s.Entries[by-1].Term
		s.Snap, s.Entries = pack.Num(s.Snap, by), s.Entries[by:]
	}
	want := api.OK
	if p.v.Turning() {
		want = api.ErrBusy
	}
	if e := p.v.Compact(s); e != want {
		t.Fatalf("Compact: %d, not %d", e, want)
	}
	if want == api.OK {
		p.states = append(p.states, s)
	}
}

// sync makes all sure.
func (p *play) sync(t *testing.T) {
	t.Helper()
	does(t, "Sync", p.v.Sync())
	p.sure = len(p.states) - 1
}

// crashed looks what Open says behind a crash that leaves so much: a state from
// the one that is sure on; and again the same. It answers which.
func (p *play) crashed(t *testing.T, keeps []int) (*disk.Disk, int) {
	t.Helper()
	d := p.d.Copy()
	d.Crash(keeps)
	s, _ := openSaid(t, d)
	for again := range 3 {
		one, v := openSaid(t, d)
		if !record.SameSaved(s, one) || v.Turning() || v.Stopped() {
			t.Fatalf("keeps %v, opened again: %+v, not %+v", keeps, one, s)
		}
		if again == 1 {
			d.Crash(keeps)
		}
	}
	for i := p.sure; i < len(p.states); i++ {
		if record.SameSaved(s, p.states[i]) {
			return d, i
		}
	}
	t.Fatalf("keeps %v: Open says %+v, which was not written behind what was sure", keeps, s)
	return nil, 0
}

// eachCrash crashes a copy with each beginning of what is not sure of either slot.
func (p *play) eachCrash(t *testing.T) {
	t.Helper()
	most := p.d.Loose()
	for one := range most + 1 {
		p.crashed(t, []int{one})
		p.crashed(t, []int{one, 0})
		p.crashed(t, []int{one, most})
		p.crashed(t, []int{0, one})
		p.crashed(t, []int{most, one})
	}
	if _, at := p.crashed(t, nil); at != p.sure {
		// Two states may be the same; then the first of them is found.
		t.Fatalf("nothing was kept: the state %d, not %d", at, p.sure)
	}
	if _, at := p.crashed(t, []int{most}); !record.SameSaved(p.states[at], p.last()) {
		t.Fatalf("all was kept: the state %d, not the last one", at)
	}
}

// begun is a play from begin on.
func begun(t *testing.T, begin api.Saved) *play {
	t.Helper()
	d := made(t, 2, room)
	v := says(t, "begin", d, begin, begin)
	return &play{d: d, v: v, states: []api.Saved{begin}}
}

// P14.5, P14.6: a crash behind each step, with each beginning of what was not sure.
func TestCrashBehindEachStep(t *testing.T) {
	p := begun(t, saved(4))
	steps := []func(){
		func() { p.write(t, entry(5)) },
		func() { p.write(t, hard(6, 1)) },
		func() { p.sync(t) },
		func() { p.write(t, entry(6)) },
		func() { p.write(t, cut(5)) },
		func() { p.write(t, entry(5)) },
		func() { p.compact(t, 1) },
		func() { p.compact(t, 1) },
		func() { p.write(t, hard(7, 2)) },
		func() { p.write(t, entry(6)) },
		func() { p.sync(t) },
		func() { p.sync(t) },
		func() { p.compact(t, 2) },
		func() { p.write(t, entry(7)) },
		func() { p.write(t, base(7)) },
		func() { p.sync(t) },
		func() { p.write(t, hard(8, 0)) },
		func() { p.compact(t, 0) },
		func() { p.sync(t) },
	}
	for _, step := range steps {
		step()
		p.eachCrash(t)
	}
}

// random does one thing that may be.
func (p *play) random(t *testing.T, r *rand.Rand) {
	t.Helper()
	end := p.last().Base + len(p.last().Entries)
	switch r.Intn(12) {
	case 0:
		p.compact(t, r.Intn(3))
	case 1, 2:
		p.sync(t)
	case 3:
		p.write(t, cut(max(1, end-r.Intn(3))))
	case 4:
		p.write(t, base(end-r.Intn(3)+1))
	case 5, 6:
		// Each one unlike those ahead, so that states may be told apart.
		p.write(t, hard(len(p.states)+100, r.Intn(8)))
	default:
		p.write(t, entry(end+1))
	}
}

// P14.5, P14.6: whatever is written, compacted and synced, crashed and opened
// again: all that was sure is there, and it goes on from there.
func TestRandomPlays(t *testing.T) {
	for seed := range 150 {
		r := rand.New(rand.NewSource(int64(seed)))
		p := begun(t, saved(3+r.Intn(3)))
		for range 120 {
			p.random(t, r)
			loose := p.d.Loose()
			keeps := []int{r.Intn(loose + 1), r.Intn(loose + 1)}
			d, at := p.crashed(t, keeps[:r.Intn(3)])
			if r.Intn(25) > 0 || p.v.Size() > room/2 {
				continue
			}
			s, v := openSaid(t, d)
			p = &play{d: d, v: v, states: []api.Saved{p.states[at]}}
			if !record.SameSaved(s, p.last()) {
				t.Fatalf("seed %d: %+v, not %+v", seed, s, p.last())
			}
		}
	}
}

// P14.2, P14.5: whatever bytes the slots have, Open takes what is good, and
// says the same again.
func FuzzOpen(f *testing.F) {
	s := saved(5)
	f.Add(slot(1, 4, head(s)...), slot(2, 2, base(9), hard(1, 1), entry(10)))
	f.Add(slot(top, 2, base(9), hard(1, 1)), slot(1, 3, entry(1), entry(2), hard(1, 1), entry(9)))
	f.Add(slot(0, 2, head(s)...), []byte("junk"))
	f.Fuzz(func(t *testing.T, one, two []byte) {
		d := made(t, 2, api.MaxSlot)
		if d.Append(0, one) != api.OK || d.Append(1, two) != api.OK {
			return
		}
		d.Sync()
		first, v := openSaid(t, d)
		if v.Size() != d.Size(0)+d.Size(1) || d.Loose() != 0 {
			t.Errorf("size %d of %d and %d, loose %d", v.Size(), d.Size(0), d.Size(1), d.Loose())
		}
		again, _ := openSaid(t, d)
		if !record.SameSaved(first, again) {
			t.Errorf("%+v, again %+v", first, again)
		}
		does(t, "Write", v.Write(hard(7, 7)))
		does(t, "Compact", v.Compact(first))
		does(t, "Sync", v.Sync())
		if last, _ := openSaid(t, d); !record.SameSaved(first, last) {
			t.Errorf("%+v, compacted %+v", first, last)
		}
	})
}
