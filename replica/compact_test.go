package replica_test

import (
	"fmt"
	"testing"

	"bailey/api"
	"bailey/disk"
	"bailey/replica"
)

// P27.4: a Sync lays a snapshot in the place of what was applied, from 16
// entries above Base on.
func TestCompact(t *testing.T) {
	for _, c := range []struct{ applied, base int }{{1, 0}, {14, 0}, {15, 0}, {16, 16}, {17, 17}, {30, 30}} {
		what := fmt.Sprint(c.applied, " entries")
		d, r := alone(t)
		for i := 2; i <= c.applied; i++ {
			asked(t, r, i, mint(1, i))
		}
		if v := r.View(); v.Base != 0 || d.Size(1) != 0 {
			t.Errorf("%s, ahead of Sync: %+v", what, v)
		}
		out := r.Sync()
		applied(t, what, out, 2, c.applied)
		if len(out.Answers) != c.applied-1 {
			t.Errorf("%s: %d answers", what, len(out.Answers))
		}
		as(t, what, r, api.RaftView{Term: 1, Vote: 1, Role: api.Leader, Leader: 1, Commit: c.applied, Base: c.base, Last: c.applied, LastTerm: 1, Conf: 1})
		if turning := c.base > 0; (d.Size(1) > 0) != turning || (d.Loose() > 0) != turning {
			t.Errorf("%s: slots of %d and %d bytes, loose %d", what, d.Size(0), d.Size(1), d.Loose())
		}
	}
}

// P27.4: each Base is counted from anew, and the slot ahead goes with the next
// Sync.
func TestCompactAgain(t *testing.T) {
	d, r := alone(t)
	last, base := 1, 0
	for i := range 100 {
		for range i % 5 {
			last++
			asked(t, r, last, mint(1, last))
		}
		r.Sync()
		turning := last-base >= 16
		if turning {
			base = last
		}
		if v := r.View(); v.Base != base || v.Last != last || v.Commit != last {
			t.Fatalf("%d: %+v, not from %d to %d", i, v, base, last)
		}
		if (d.Size(0) > 0 && d.Size(1) > 0) != turning {
			t.Fatalf("%d: slots of %d and %d bytes, turning %v", i, d.Size(0), d.Size(1), turning)
		}
		found(t, fmt.Sprint("crash ", i), d, r.View(), turning)
	}
	if base < 180 {
		t.Errorf("base %d", base)
	}
}

// found looks whether behind a crash, whatever stays, all is found that a Sync
// made sure.
func found(t *testing.T, what string, d *disk.Disk, v api.RaftView, turning bool) {
	t.Helper()
	for _, keep := range []int{0, 1, d.Loose() / 2, d.Loose() - 1, d.Loose()} {
		c := d.Copy()
		c.Crash([]int{keep})
		got := opened(t, c, 0, 1)
		w := got.View()
		if m := got.Machine(); m.Index != w.Base || w.Term != v.Term || w.Last != v.Last || (w.Base == v.Base) != (!turning || keep == d.Loose()) {
			t.Fatalf("%s, %d bytes stay: %+v, not %+v", what, keep, w, v)
		}
	}
}

// P27.4: while the vault turns, messages are held, and nothing but a Sync lays
// another snapshot.
func TestTurning(t *testing.T) {
	d, r := leader(t, 3)
	for i := 2; i <= 16; i++ {
		asked(t, r, i, mint(1, i))
	}
	r.Sync()
	agree(r, 3, 1)
	if v := r.View(); v.Base != 0 || v.Commit != 16 {
		t.Fatalf("%+v", v)
	}
	// What a message made be applied is compacted with the next Sync alone.
	r.Sync()
	if v := r.View(); v.Base != 16 || d.Loose() == 0 {
		t.Fatalf("%+v, loose %d", v, d.Loose())
	}
	for i := 17; i <= 40; i++ {
		asked(t, r, i, mint(1, i))
		quiet(t, "a message back", agreed(r, i-1, 1))
	}
	if v := r.View(); v.Base != 16 || r.Held() == 0 {
		t.Errorf("turning: %+v, held %d", v, r.Held())
	}
	held := r.Held()
	out := r.Sync()
	if v := r.View(); v.Base != 39 || v.Last != 40 || len(out.Msgs) < held || d.Size(0) == 0 {
		t.Errorf("turned: %+v, sent %d of %d", v, len(out.Msgs), held)
	}
	applied(t, "turned", out, 17, 39)
}

// P27.4: who only follows compacts too.
func TestCompactFollower(t *testing.T) {
	d := blank(t, api.MaxSlot)
	r := opened(t, d, 0, 3)
	for i := range 3 {
		var l []api.Entry
		for k := range 8 {
			l = append(l, entry(8*i+k+1, 1, mint(k, 8*i+k+1)))
		}
		term := 1
		if i == 0 {
			term = 0
		}
		r.Take(api.Msg{Kind: api.MsAppend, From: 1, Term: 1, Index: 8 * i, LogTerm: term, Round: 1, Commit: 18, Entries: l})
	}
	r.Sync()
	as(t, "compacted", r, api.RaftView{Term: 1, Leader: 2, Commit: 18, Base: 18, Last: 24, LastTerm: 1, Conf: 7})
	if m := r.Machine(); m.Index != 18 {
		t.Errorf("machine %d", m.Index)
	}
	r.Sync()
	d.Crash(nil)
	as(t, "opened again", opened(t, d, 0, 3), api.RaftView{Term: 1, Commit: 18, Base: 18, Last: 24, LastTerm: 1, Conf: 7})
}

// P27.4: a slot that has grown above half of its room is begun anew, though
// nothing was applied.
func TestCompactSize(t *testing.T) {
	for _, c := range []struct{ more, turns int }{{-1, 0}, {0, 0}, {1, 1}} {
		what := fmt.Sprint(c.more, " bytes more than half")
		d := blank(t, api.MaxSlot)
		r := opened(t, d, 0, 3)
		size := grow(r, d, c.more)
		if size != api.MaxSlot/2+c.more {
			t.Fatalf("%s: %d bytes", what, size)
		}
		was := r.View()
		r.Sync()
		as(t, what, r, was)
		if (d.Size(1) > 0) != (c.turns > 0) {
			t.Errorf("%s: slots of %d and %d bytes", what, d.Size(0), d.Size(1))
		}
		again := d.Copy()
		again.Crash([]int{greatest})
		was.Role, was.Leader = 0, 0
		as(t, what+", opened again", opened(t, again, 0, 3), was)
	}
}

// grow lets r have entries that nobody committed, till its slot has so many
// bytes more than half of its room: how many it has then.
func grow(r *replica.Replica, d *disk.Disk, more int) int {
	for i := 1; ; i++ {
		left := api.MaxSlot/2 + more - d.Size(0)
		if left <= 0 {
			return d.Size(0)
		}
		data := min(left/2, api.MaxEntry)
		if left < api.MaxEntry {
			data = fitting(i, left)
		}
		last := r.View()
		r.Take(api.Msg{Kind: api.MsAppend, From: 1, Term: 1, Index: last.Last, LogTerm: last.LastTerm, Round: 1, Entries: []api.Entry{{Index: i, Term: 1, Kind: api.EnCommand, Data: make([]byte, data)}}})
	}
}

// fitting is how many bytes of data the entry of that index has whose record
// has just so many bytes on a disk.
func fitting(index, bytes int) int {
	for data := range bytes {
		if size(api.Record{Kind: api.RcEntry, Entry: api.Entry{Index: index, Term: 1, Kind: api.EnCommand, Data: make([]byte, data)}}) == bytes {
			return data
		}
	}
	return 0
}
