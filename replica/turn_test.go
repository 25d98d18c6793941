package replica_test

import (
	"fmt"
	"slices"
	"strings"
	"testing"

	"bailey/api"
	"bailey/disk"
	"bailey/frame"
	"bailey/machine"
	"bailey/record"
	"bailey/replica"
	"bailey/rlog"
	"bailey/vault"
)

// P27.2, P27.4, P27.6: messages are held while something is not sure, also such
// that tell nothing new, and go in their order behind a Sync.
func TestHeld(t *testing.T) {
	d := blank(t, api.MaxSlot)
	r := opened(t, d, 0, 3)
	no := api.Msg{Kind: api.MsPreReply, To: 2}
	sent(t, "nothing is loose", r.Take(api.Msg{Kind: api.MsPre, From: 2, Term: 0}), no)
	quiet(t, "a vote", r.Take(api.Msg{Kind: api.MsVote, From: 1, Term: 5}))
	quiet(t, "another one's asking", r.Take(api.Msg{Kind: api.MsVote, From: 2, Term: 5}))
	quiet(t, "one who would ask", r.Take(api.Msg{Kind: api.MsPre, From: 2, Term: 1}))
	quiet(t, "a tick", r.Tick())
	if r.Held() != 3 || d.Loose() == 0 {
		t.Errorf("held %d, loose %d", r.Held(), d.Loose())
	}
	lost := d.Copy()
	lost.Crash(nil)
	as(t, "crashed ahead of Sync", opened(t, lost, 0, 3), api.RaftView{Conf: 7})
	no.Term = 5
	sent(t, "Sync", r.Sync(), api.Msg{Kind: api.MsVoteReply, To: 1, Term: 5, OK: true}, api.Msg{Kind: api.MsVoteReply, To: 2, Term: 5}, no)
	if r.Held() != 0 || d.Loose() != 0 {
		t.Errorf("held %d, loose %d", r.Held(), d.Loose())
	}
	quiet(t, "Sync again", r.Sync())
	d.Crash(nil)
	as(t, "crashed behind Sync", opened(t, d, 0, 3), api.RaftView{Term: 5, Vote: 2, Conf: 7})
	sent(t, "at once again", r.Take(api.Msg{Kind: api.MsPre, From: 2, Term: 1}), no)
}

// P27.4: what a Sync makes be sent stands behind what was held.
func TestSyncOrder(t *testing.T) {
	d, r := leader(t, 3)
	asked(t, r, 1, mint(1, 1))
	if r.Held() != 2 {
		t.Errorf("held %d", r.Held())
	}
	// With its own entry sure, and that of the node 1, the leader has committed.
	quiet(t, "the node 1 has it", agree(r, 3, 2))
	out := r.Sync()
	if len(out.Msgs) != 2 || out.Msgs[0].To != 1 || out.Msgs[1].To != 2 || out.Msgs[0].Entries[0].Index != 2 || d.Loose() != 0 {
		t.Errorf("sent %+v", out.Msgs)
	}
	told(t, "Sync", out, api.Answer{ID: 1, Client: 1, Seq: 1, Index: 2, Bytes: minted(2)})
}

// P27.2: what is not sure holds messages, whoever wrote it.
func TestHeldByDisk(t *testing.T) {
	d, r := leader(t, 3)
	d.Append(1, []byte("x"))
	for range 3 {
		quiet(t, "a tick", r.Tick())
	}
	if r.Held() != 2 {
		t.Errorf("held %d", r.Held())
	}
	d.Sync()
	out := r.Take(api.Msg{})
	if len(out.Msgs) != 2 || r.Held() != 0 {
		t.Errorf("sent %+v, held %d", out.Msgs, r.Held())
	}
}

// tight is a disk that has s and room for so many bytes more.
func tight(t *testing.T, s api.Saved, spare int) *disk.Disk {
	t.Helper()
	return laid(t, laid(t, api.MaxSlot, s).Size(0)+spare, s)
}

// size is how many bytes the records have on a disk.
func size(l ...api.Record) int {
	n := 0
	for _, x := range l {
		b, e := record.Encode(x)
		if e != api.OK {
			panic(e)
		}
		f, _ := frame.Seal(b)
		n += len(f)
	}
	return n
}

// P27.2: a record of each kind that can't be written, and just can be.
func TestStops(t *testing.T) {
	own := []api.Entry{entry(1, 1, mint(1, 1)), entry(2, 1, mint(1, 2)), entry(3, 1, mint(1, 3))}
	with := begun(lane, 3, amount)
	with.Term, with.Entries = 2, own
	late := with
	late.Term = api.MaxNum
	m := machine.Start(lane, amount)
	m.Index = 2
	snap := api.Msg{Kind: api.MsSnap, From: 1, Term: 2, Index: 2, LogTerm: 2, Round: 1, Conf: 7, Data: coded(m)}
	other := api.Msg{Kind: api.MsAppend, From: 1, Term: 2, Index: 1, LogTerm: 1, Round: 1, Entries: []api.Entry{entry(2, 2, mint(2, 2))}}
	next := other
	next.Index, next.Entries = 3, []api.Entry{entry(4, 2, mint(2, 2))}
	hard := api.Record{Kind: api.RcHard, Term: 3, Vote: 2}
	base := api.Record{Kind: api.RcBase, Index: 2, Term: 2, Conf: 7, Snap: snap.Data}
	cut := api.Record{Kind: api.RcCut, Index: 2}
	behind := api.Record{Kind: api.RcCut, Index: 3}
	laidAnew := api.Record{Kind: api.RcEntry, Entry: other.Entries[0]}
	added := api.Record{Kind: api.RcEntry, Entry: next.Entries[0]}
	for _, c := range []struct {
		what  string
		begin api.Saved
		m     api.Msg
		room  int // for all but the last byte of the record that can't be written
		fits  bool
	}{
		{"a term", with, api.Msg{Kind: api.MsVote, From: 1, Term: 3, Index: 3, LogTerm: 2}, size(hard) - 1, false},
		{"a vote", with, api.Msg{Kind: api.MsVote, From: 1, Term: 3, Index: 3, LogTerm: 2}, 2*size(hard) - 1, false},
		{"a term and a vote", with, api.Msg{Kind: api.MsVote, From: 1, Term: 3, Index: 3, LogTerm: 2}, 2 * size(hard), true},
		{"an entry", with, next, size(added) - 1, false},
		{"an entry that fits", with, next, size(added), true},
		{"a cut", with, other, size(cut) - 1, false},
		{"an entry behind a cut", with, other, size(cut, laidAnew) - 1, false},
		{"a cut and an entry", with, other, size(cut, laidAnew), true},
		{"a base", with, snap, size(base) - 1, false},
		{"a cut behind a base", with, snap, size(base, behind) - 1, false},
		{"a base and a cut", with, snap, size(base, behind), true},
		{"no record", with, api.Msg{Kind: api.MsPre, From: 1, Term: 3}, 0, true},
		{"a term that may be", late, api.Msg{Kind: api.MsPre, From: 1, Term: 3}, 0, true},
	} {
		d := tight(t, c.begin, c.room)
		r := opened(t, d, 0, 3)
		out := r.Take(c.m)
		if r.Stopped() == c.fits {
			t.Errorf("%s: stopped %v", c.what, r.Stopped())
		}
		if !c.fits {
			quiet(t, c.what, out)
			none(t, c.what, r, api.ErrDown)
			d.Crash(nil)
			if r, e := replica.Open(d, lane, 0, 3, amount); e != api.OK || r.Stopped() || r.View().Last != 3 || r.View().Term != 2 {
				t.Errorf("%s: opened again: %+v, %d", c.what, r.View(), e)
			}
		}
	}
}

// P27.2: a record that may not be can't be written either.
func TestStopsTerm(t *testing.T) {
	s := begun(lane, 1, amount)
	s.Term = api.MaxNum
	r := opened(t, laid(t, api.MaxSlot, s), 0, 1)
	for range 10 {
		quiet(t, "a tick", r.Tick())
	}
	none(t, "behind the last term", r, api.ErrDown)
}

// P27.2: who waits, and what is held, is told no more; neither are those behind.
func TestStopsWaiting(t *testing.T) {
	for _, c := range []struct {
		what string
		does func(r *replica.Replica) replica.Out
	}{
		{"Submit", func(r *replica.Replica) replica.Out { _, out := r.Submit(9, mint(1, 9)); return out }},
		{"Change", func(r *replica.Replica) replica.Out { _, out := r.Change(9, 1, 9, 3); return out }},
		{"Take", func(r *replica.Replica) replica.Out {
			return r.Take(api.Msg{Kind: api.MsAppend, From: 1, Term: 9, Round: 1})
		}},
	} {
		// What makes it lead fits, and a command; of a term all but the last byte.
		room := 2*size(api.Record{Kind: api.RcHard, Term: 1, Vote: 1}) + size(api.Record{Kind: api.RcEntry, Entry: api.Entry{Index: 1, Term: 1}}, api.Record{Kind: api.RcEntry, Entry: entry(2, 1, mint(1, 1))}) - 1
		d := tight(t, begun(lane, 3, amount), room)
		r := opened(t, d, 0, 3)
		elected(t, r, 3)
		asked(t, r, 1, mint(1, 1))
		asked(t, r, 2, total(2, 2))
		if r.Waiting() != 2 || r.Held() != 4 {
			t.Fatalf("%s: waiting %d, held %d", c.what, r.Waiting(), r.Held())
		}
		quiet(t, c.what, c.does(r))
		none(t, c.what, r, api.ErrDown)
	}
}

// P27.4: a slot that can't be begun.
func TestStopsCompact(t *testing.T) {
	d, r := alone(t)
	for i := range 15 {
		asked(t, r, i, mint(1, 1+i))
	}
	for range 2 {
		if e := d.Append(1, make([]byte, api.MaxSlot/2)); e != api.OK {
			t.Fatal(e)
		}
	}
	r.Sync()
	none(t, "no room for a new slot", r, api.ErrDown)
	d.Crash(nil)
	if v := opened(t, d, 0, 1).View(); v.Base != 0 || v.Last != 16 {
		t.Errorf("opened again: %+v", v)
	}
}

// P27.2: a snapshot that came is the machine; entries go on behind it.
func TestLoaded(t *testing.T) {
	d := blank(t, api.MaxSlot)
	r := opened(t, d, 0, 3)
	m := machine.Start(lane, 55)
	for i := 1; i <= 9; i++ {
		m, _, _ = machine.Apply(m, entry(i, 2, mint(1, i)))
	}
	quiet(t, "a snapshot", r.Take(api.Msg{Kind: api.MsSnap, From: 2, Term: 3, Index: 9, LogTerm: 2, Round: 4, Conf: 15, Data: coded(m)}))
	has(t, "a snapshot", r, m)
	view := api.RaftView{Term: 3, Leader: 3, Commit: 9, Base: 9, Last: 9, LastTerm: 2, Conf: 15}
	as(t, "a snapshot", r, view)
	out := r.Sync()
	sent(t, "Sync", out, api.Msg{Kind: api.MsReply, To: 2, Term: 3, Index: 9, Round: 4, OK: true})
	applied(t, "Sync", out, 1, 0)
	out = r.Take(api.Msg{Kind: api.MsAppend, From: 2, Term: 3, Index: 9, LogTerm: 2, Commit: 11, Round: 5, Entries: []api.Entry{entry(10, 3, mint(1, 10)), entry(11, 3, mint(1, 11)), entry(12, 3, mint(1, 12))}})
	applied(t, "two more", out, 10, 11)
	m, _, _ = machine.Apply(m, entry(10, 3, mint(1, 10)))
	m, _, _ = machine.Apply(m, entry(11, 3, mint(1, 11)))
	has(t, "two more", r, m)
	d.Crash([]int{0})
	view.Leader = 0
	as(t, "opened again", opened(t, d, 0, 3), view)
}

// P27.2: a snapshot that came and is no machine.
func TestLoadedWrong(t *testing.T) {
	m := machine.Start(lane, 55)
	m.Index = 9
	for _, b := range [][]byte{nil, []byte("snap"), append(coded(m), 0), coded(m)[1:]} {
		d := blank(t, api.MaxSlot)
		r := opened(t, d, 0, 3)
		quiet(t, "no machine", r.Take(api.Msg{Kind: api.MsSnap, From: 2, Term: 3, Index: 9, LogTerm: 2, Round: 4, Conf: 15, Data: b}))
		none(t, "no machine", r, api.ErrDown)
		d.Crash(nil)
		as(t, "opened again", opened(t, d, 0, 3), api.RaftView{Conf: 7})
	}
}

// P27.2: entries are applied once each, in order, as far as they are committed.
func TestApplied(t *testing.T) {
	d := blank(t, api.MaxSlot)
	r := opened(t, d, 0, 3)
	m := machine.Start(lane, amount)
	var l []api.Entry
	for i := 1; i <= 8; i++ {
		l = append(l, entry(i, 1, mint(i%3, i)))
	}
	l[4] = api.Entry{Index: 5, Term: 1}
	l[5] = api.Entry{Index: 6, Term: 1, Kind: api.EnCommand, Data: []byte("no command")}
	l[6] = api.Entry{Index: 7, Term: 1, Kind: api.EnConf, Data: rlog.ConfData(15)}
	from := 1
	for _, upto := range []int{0, 1, 1, 4, 2, 7, 8, 8, 0} {
		out := r.Take(api.Msg{Kind: api.MsAppend, From: 1, Term: 1, Commit: upto, Round: 1, Entries: l})
		what := fmt.Sprint("committed up to ", upto)
		applied(t, what, out, from, upto)
		told(t, what, out)
		for _, e := range out.Applied {
			if !record.SameEntry(e, l[e.Index-1]) {
				t.Errorf("%s: %+v", what, e)
			}
			m, _, _ = machine.Apply(m, e)
		}
		has(t, what, r, m)
		from = max(from, upto+1)
	}
	r.Sync()
	// Opened again it begins with the snapshot, and applies anew what it hears is
	// committed.
	d.Crash(nil)
	r = opened(t, d, 0, 3)
	has(t, "opened again", r, machine.Start(lane, amount))
	out := r.Take(api.Msg{Kind: api.MsAppend, From: 1, Term: 1, Index: 8, LogTerm: 1, Commit: 8, Round: 1})
	applied(t, "opened again", out, 1, 8)
	has(t, "applied again", r, m)
}

// P27.2: what a command's client is told is what Apply answers.
func TestAnswers(t *testing.T) {
	_, r := alone(t)
	wrong := mint(2, 1)
	wrong.ID = 9
	asked(t, r, 10, mint(1, 5))
	asked(t, r, 11, mint(1, 5))
	asked(t, r, 12, mint(1, 4))
	asked(t, r, 10, mint(1, 6))
	asked(t, r, -1, wrong)
	if r.Waiting() != 5 {
		t.Errorf("waiting %d", r.Waiting())
	}
	m := r.Machine()
	out := r.Sync()
	told(t, "Sync", out,
		api.Answer{ID: 10, Client: 1, Seq: 5, Index: 2, Bytes: minted(2)},
		api.Answer{ID: 11, Client: 1, Seq: 5, Index: 3, Bytes: minted(2)},
		api.Answer{ID: 12, Client: 1, Seq: 4, Index: 4, Bytes: answered(out.Applied[2], m, out.Applied[:2]...)},
		api.Answer{ID: 10, Client: 1, Seq: 6, Index: 5, Bytes: minted(3)},
		api.Answer{ID: -1, Client: 2, Seq: 1, Index: 6, Bytes: reply(api.Result{Kind: api.OpMint, Code: api.ErrDenied})})
	if x, _ := machine.ReadReply(out.Answers[2].Bytes); x.Code != api.ErrOld {
		t.Errorf("a Seq gone by: %+v", x)
	}
	applied(t, "Sync", out, 2, 6)
	if r.Waiting() != 0 {
		t.Errorf("waiting %d", r.Waiting())
	}
	quiet(t, "Sync again", r.Sync())
}

// answered is what Apply answers of e, applied to m behind those ahead.
func answered(e api.Entry, m api.Machine, ahead ...api.Entry) []byte {
	for _, x := range ahead {
		m, _, _ = machine.Apply(m, x)
	}
	_, a, _ := machine.Apply(m, e)
	return a.Bytes
}

// full is a leader of three with four commands, of the indexes 2 to 5, and two
// reads, in turns.
func full(t *testing.T) *replica.Replica {
	t.Helper()
	_, r := leader(t, 3)
	asked(t, r, 1, mint(1, 1))
	asked(t, r, 2, total(2, 9))
	asked(t, r, 3, mint(3, 1))
	asked(t, r, 4, mint(4, 1))
	asked(t, r, 5, total(5, 9))
	asked(t, r, 6, mint(6, 1))
	if r.Waiting() != 6 {
		t.Fatalf("waiting %d", r.Waiting())
	}
	return r
}

// P27.2: when it does not lead any more, all are told who does: commands, then
// reads, as they came.
func TestDismissed(t *testing.T) {
	for _, c := range []struct {
		what   string
		m      api.Msg
		leader int
	}{
		{"another leader", api.Msg{Kind: api.MsAppend, From: 2, Term: 9, Round: 1}, 3},
		{"a later term, nobody leads", api.Msg{Kind: api.MsPreReply, From: 2, Term: 9}, 0},
	} {
		r := full(t)
		b := unavailable(c.leader)
		told(t, c.what, r.Take(c.m),
			api.Answer{ID: 1, Client: 1, Seq: 1, Bytes: b}, api.Answer{ID: 3, Client: 3, Seq: 1, Bytes: b}, api.Answer{ID: 4, Client: 4, Seq: 1, Bytes: b}, api.Answer{ID: 6, Client: 6, Seq: 1, Bytes: b},
			api.Answer{ID: 2, Client: 2, Seq: 9, Bytes: b}, api.Answer{ID: 5, Client: 5, Seq: 9, Bytes: b})
		if r.Waiting() != 0 {
			t.Errorf("%s: waiting %d", c.what, r.Waiting())
		}
		told(t, c.what+", again", r.Take(c.m))
	}
}

// P27.2: entries of another leader: one that has its term is answered as ever,
// one of another term is not the one that was asked for, others wait in vain.
func TestOvertaken(t *testing.T) {
	r := full(t)
	what := "another leader's entries"
	out := r.Take(api.Msg{Kind: api.MsAppend, From: 1, Term: 2, Index: 1, LogTerm: 1, Commit: 3, Round: 1, Entries: []api.Entry{entry(2, 1, mint(1, 1)), entry(3, 2, mint(3, 1)), entry(4, 2, mint(4, 1))}})
	told(t, what, out,
		api.Answer{ID: 1, Client: 1, Seq: 1, Index: 2, Bytes: minted(2)}, api.Answer{ID: 3, Client: 3, Seq: 1, Bytes: unavailable(0)},
		api.Answer{ID: 4, Client: 4, Seq: 1, Bytes: unavailable(2)}, api.Answer{ID: 6, Client: 6, Seq: 1, Bytes: unavailable(2)},
		api.Answer{ID: 2, Client: 2, Seq: 9, Bytes: unavailable(2)}, api.Answer{ID: 5, Client: 5, Seq: 9, Bytes: unavailable(2)})
	applied(t, what, out, 2, 3)
}

// P27.2: commands whose index is passed by, as a snapshot came in their place.
func TestPassedBy(t *testing.T) {
	r := full(t)
	m := machine.Start(lane, amount)
	m.Index = 3
	what := "another leader's snapshot"
	out := r.Take(api.Msg{Kind: api.MsSnap, From: 1, Term: 2, Index: 3, LogTerm: 2, Round: 1, Conf: 7, Data: coded(m)})
	told(t, what, out,
		api.Answer{ID: 1, Client: 1, Seq: 1, Bytes: unavailable(0)}, api.Answer{ID: 3, Client: 3, Seq: 1, Bytes: unavailable(0)},
		api.Answer{ID: 4, Client: 4, Seq: 1, Bytes: unavailable(2)}, api.Answer{ID: 6, Client: 6, Seq: 1, Bytes: unavailable(2)},
		api.Answer{ID: 2, Client: 2, Seq: 9, Bytes: unavailable(2)}, api.Answer{ID: 5, Client: 5, Seq: 9, Bytes: unavailable(2)})
	applied(t, what, out, 1, 0)
	has(t, what, r, m)
}

// P27.2, P27.3: a change of members, and its answer.
func TestChange(t *testing.T) {
	_, r := leader(t, 3)
	for _, conf := range []int{0, -1, 7, 1, 9, 31, 128, 135, 255, least, greatest} {
		e, out := r.Change(1, 2, 3, conf)
		if e != api.ErrConf {
			t.Errorf("7 to %d: %d", conf, e)
		}
		quiet(t, "refused", out)
	}
	e, out := r.Change(9, 2, 3, 15)
	if e != api.OK || r.Waiting() != 1 || r.View().Conf != 15 {
		t.Fatalf("7 to 15: %d, waiting %d, %+v", e, r.Waiting(), r.View())
	}
	quiet(t, "7 to 15", out)
	if e, out := r.Change(10, 2, 4, 31); e != api.ErrConf || len(out.Msgs) > 0 {
		t.Errorf("one behind the other: %d", e)
	}
	told(t, "Sync", r.Sync())
	told(t, "one of the others has it", agree(r, 2, 2))
	told(t, "two of the others have it", agree(r, 5, 2), api.Answer{ID: 9, Client: 2, Seq: 3, Bytes: reply(api.Result{Kind: api.OpConf, Num: 15})})
	if r.Waiting() != 0 {
		t.Errorf("waiting %d", r.Waiting())
	}
	if e, _ := r.Change(11, 2, 5, 7); e != api.OK {
		t.Errorf("15 to 7: %d", e)
	}
}

// P27.2: a change of members that is not done, and one that leaves out who
// leads.
func TestChangeEnds(t *testing.T) {
	_, r := leader(t, 3)
	r.Change(9, 2, 3, 15)
	told(t, "another leader", r.Take(api.Msg{Kind: api.MsAppend, From: 2, Term: 9, Index: 1, LogTerm: 1, Round: 1, Commit: 2, Entries: []api.Entry{entry(2, 9, mint(1, 1))}}), api.Answer{ID: 9, Client: 2, Seq: 3, Bytes: unavailable(0)})
	_, r = leader(t, 3)
	r.Change(9, 2, 3, 6)
	asked(t, r, 10, mint(1, 1))
	r.Sync()
	told(t, "one of the others", agree(r, 3, 3))
	out := r.Take(api.Msg{Kind: api.MsReply, From: 2, Term: 1, Index: 2, Round: 3, OK: true})
	told(t, "both others", out, api.Answer{ID: 9, Client: 2, Seq: 3, Bytes: reply(api.Result{Kind: api.OpConf, Num: 6})}, api.Answer{ID: 10, Client: 1, Seq: 1, Bytes: unavailable(0)})
	if v := r.View(); v.Role != api.Follower || v.Commit != 2 {
		t.Errorf("it leads still: %+v", v)
	}
}

// P27.2, P27.3: a read is answered once its round was heard, with all that is
// applied then.
func TestRead(t *testing.T) {
	_, r := leader(t, 3)
	x := total(4, 7)
	x.Caveats = []api.Caveat{{Kind: api.CvClient, Num: 4}}
	out := asked(t, r, 8, x)
	x.Caveats[0].Num = 5
	if len(out.Msgs) != 2 || r.Held() != 0 {
		t.Errorf("sent %+v, held %d", out.Msgs, r.Held())
	}
	want := reply(api.Result{Kind: api.OpTotal, Num: amount})
	quota := api.Command{Client: 1, Seq: 1, Kind: api.OpQuota, ID: 1, Bytes: 300}
	asked(t, r, 9, quota)
	asked(t, r, 10, total(4, 8))
	told(t, "Sync", r.Sync())
	told(t, "a round too early", agreed(r, 1, 1))
	told(t, "its round", agreed(r, 1, 2), api.Answer{ID: 8, Client: 4, Seq: 7, Read: true, Index: 1, Bytes: want})
	after := reply(api.Result{Kind: api.OpTotal, Num: 300})
	told(t, "the last round", agreed(r, 2, 4), api.Answer{ID: 9, Client: 1, Seq: 1, Index: 2, Bytes: reply(api.Result{Kind: api.OpQuota})}, api.Answer{ID: 10, Client: 4, Seq: 8, Read: true, Index: 2, Bytes: after})
	if r.Waiting() != 0 {
		t.Errorf("waiting %d", r.Waiting())
	}
}

// agreed lets the node 1 tell that it has the entries up to index, as heard in
// that round.
func agreed(r *replica.Replica, index, round int) replica.Out {
	return r.Take(api.Msg{Kind: api.MsReply, From: 1, Term: r.View().Term, Index: index, Round: round, OK: true})
}

// P27.3: a node alone reads at once; a read that may not be is told so, what
// bears a wrong token too, and reads change nothing.
func TestReadAlone(t *testing.T) {
	_, r := alone(t)
	wrong := total(1, 2)
	wrong.ID = 9
	m := r.Machine()
	for _, c := range []struct {
		x    api.Command
		want api.Result
	}{
		{total(1, 1), api.Result{Num: amount}}, {total(1, 1), api.Result{Num: amount}}, {wrong, api.Result{Code: api.ErrDenied}},
		{api.Command{Kind: api.OpTotal}, api.Result{Code: api.ErrArg}}, {api.Command{Client: 99, Seq: -7, Kind: api.OpList, ID: 1}, api.Result{Code: api.ErrArg}},
		{api.Command{Client: 3, Seq: 7, Kind: api.OpRestore, ID: 1, Space: "a"}, api.Result{Code: api.ErrNone}},
	} {
		c.want.Kind = c.x.Kind
		told(t, fmt.Sprintf("%+v", c.x), asked(t, r, 4, c.x), api.Answer{ID: 4, Client: c.x.Client, Seq: c.x.Seq, Read: true, Index: 1, Bytes: reply(c.want)})
	}
	has(t, "behind reads", r, m)
	if r.Waiting() != 0 || r.View().Last != 1 {
		t.Errorf("waiting %d, %+v", r.Waiting(), r.View())
	}
}

// P27.3: what is not let in.
func TestSubmitWrong(t *testing.T) {
	r := opened(t, blank(t, api.MaxSlot), 0, 3)
	wrong := []api.Command{{}, {Client: 8, Seq: 1, Kind: api.OpMint, ID: 1}, {Client: -1, Seq: 1, Kind: api.OpMint, ID: 1}, {Kind: api.OpMint, ID: 1}, {Seq: 1, Kind: api.OpConf, ID: 1}, {Seq: 1, Kind: api.OpPut, ID: 1}, {Seq: 1, Kind: api.OpMint}, {Seq: 1, Kind: api.OpMint, ID: 1, Name: strings.Repeat("a", 17)}}
	refused := func(what string, x api.Command, want api.Errno) {
		t.Helper()
		v, n := r.View(), r.Waiting()
		e, out := r.Submit(1, x)
		if e != want || r.Waiting() != n || r.View() != v {
			t.Errorf("%s: %+v: %d, not %d", what, x, e, want)
		}
		quiet(t, what, out)
	}
	for _, x := range wrong {
		refused("who does not lead, and may not be", x, api.ErrArg)
	}
	refused("who does not lead", mint(1, 1), api.ErrLeader)
	refused("who does not lead, a read", total(1, 1), api.ErrLeader)
	refused("who does not lead, a read that may not be", api.Command{Kind: api.OpTotal}, api.ErrLeader)
	if e, out := r.Change(1, 1, 1, 3); e != api.ErrLeader || len(out.Msgs) > 0 {
		t.Errorf("who does not lead, a change: %d", e)
	}
	elected(t, r, 3)
	for _, x := range wrong {
		refused("a leader", x, api.ErrArg)
	}
}

// P27.3: a leader that has committed nothing of its term knows nothing that it
// could read, and changes no members.
func TestSubmitEarly(t *testing.T) {
	d := blank(t, api.MaxSlot)
	r := opened(t, d, 0, 1)
	for range 10 {
		r.Tick()
	}
	if e, out := r.Submit(1, total(1, 1)); e != api.ErrBusy || r.Waiting() != 0 || len(out.Answers) > 0 {
		t.Errorf("a read: %d", e)
	}
	if e, _ := r.Change(1, 1, 1, 3); e != api.ErrConf {
		t.Errorf("a change: %d", e)
	}
	asked(t, r, 2, mint(1, 1))
	r.Sync()
	told(t, "behind that", asked(t, r, 1, total(1, 1)), api.Answer{ID: 1, Client: 1, Seq: 1, Read: true, Index: 2, Bytes: reply(api.Result{Kind: api.OpTotal, Num: amount})})
}

// P27.3: a leader that nobody answers lets in so many entries.
func TestSubmitFull(t *testing.T) {
	_, r := leader(t, 3)
	for i := 1; i < api.MaxLog; i++ {
		asked(t, r, i, mint(i%8, i))
	}
	r.Sync()
	if e, out := r.Submit(99, mint(1, 99)); e != api.ErrBusy || r.Waiting() != 39 || len(out.Msgs) > 0 || r.Held() != 0 {
		t.Errorf("a full line: %d, waiting %d", e, r.Waiting())
	}
	if e, _ := r.Change(99, 1, 99, 3); e != api.ErrBusy {
		t.Errorf("a full line, a change: %d", e)
	}
	asked(t, r, 50, total(1, 1))
	if r.Waiting() != 40 {
		t.Errorf("waiting %d", r.Waiting())
	}
	// Once they are committed, and a Sync laid a snapshot in their place, there
	// is room again.
	out := agree(r, 3, 1)
	if len(out.Answers) != 39 || r.Waiting() != 1 {
		t.Errorf("%d answers, waiting %d", len(out.Answers), r.Waiting())
	}
	if e, _ := r.Submit(99, mint(1, 99)); e != api.ErrBusy {
		t.Errorf("ahead of a Sync: %d", e)
	}
	r.Sync()
	asked(t, r, 99, mint(1, 99))
}

// P27.2: a sweep says its time, what is needed, and which holds are live.
func TestSweep(t *testing.T) {
	_, r := alone(t)
	piece := func(c string) api.Piece { return api.Piece{Sum: strings.Repeat(c, 32), Size: 3} }
	seq := 0
	does := func(x api.Command) replica.Out {
		t.Helper()
		seq++
		x.Client, x.Seq, x.ID = 2, seq, 1
		asked(t, r, seq, x)
		out := r.Sync()
		if told, e := machine.ReadReply(out.Answers[0].Bytes); e != api.OK || told.Code != api.OK {
			t.Fatalf("%+v: %+v, %d", x, told, e)
		}
		return out
	}
	sweeps := func(what string, want replica.Sweep) {
		t.Helper()
		out := does(api.Command{Kind: api.OpSweep})
		if len(out.Sweeps) != 1 {
			t.Errorf("%s: %d sweeps", what, len(out.Sweeps))
			return
		}
		if s := out.Sweeps[0]; s.Time != want.Time || !slices.Equal(s.Needs, want.Needs) || !slices.Equal(s.Live, want.Live) {
			t.Errorf("%s: %+v, not %+v", what, s, want)
		}
		clear(out.Sweeps[0].Needs)
		clear(out.Sweeps[0].Live)
	}
	sweeps("nothing is there", replica.Sweep{Time: 1})
	does(api.Command{Kind: api.OpSpace, Name: "a", Num: 255, Bytes: 255})
	does(api.Command{Kind: api.OpReserve, Space: "a", Bytes: 10, Time: 90})
	does(api.Command{Kind: api.OpReserve, Space: "a", Bytes: 20, Time: 4})
	does(api.Command{Kind: api.OpReserve, Space: "a", Bytes: 30, Time: 99})
	sweeps("holds", replica.Sweep{Time: 6, Live: []int{3, 4, 5}})
	out := does(api.Command{Kind: api.OpCommit, Space: "a", Name: "x", Num: 1, Pieces: []api.Piece{piece("c"), piece("a"), piece("c")}})
	if len(out.Sweeps) != 0 {
		t.Errorf("a commit: %+v", out.Sweeps)
	}
	sweeps("a snapshot", replica.Sweep{Time: 8, Needs: []string{strings.Repeat("a", 32), strings.Repeat("c", 32)}, Live: []int{4, 5}})
	sweeps("a hold that expired", replica.Sweep{Time: 9, Needs: []string{strings.Repeat("a", 32), strings.Repeat("c", 32)}, Live: []int{5}})
}

// P27.2: the reply of a sweep that was refused, or asked again, sweeps nothing.
func TestNoSweep(t *testing.T) {
	_, r := alone(t)
	x := api.Command{Client: 1, Seq: 1, Kind: api.OpSweep, ID: 1}
	asked(t, r, 1, x)
	if out := r.Sync(); len(out.Sweeps) != 1 {
		t.Fatalf("%+v", out.Sweeps)
	}
	asked(t, r, 1, x)
	x.Seq, x.ID = 2, 9
	asked(t, r, 2, x)
	asked(t, r, 3, mint(1, 3))
	if out := r.Sync(); len(out.Sweeps) != 0 || len(out.Answers) != 3 {
		t.Errorf("%+v", out)
	}
}

// P27.1, P27.6: behind a crash with any beginning of what was not sure, it is
// opened with what the vault says, and that is at least what was told.
func TestOpenAgain(t *testing.T) {
	d := blank(t, api.MaxSlot)
	r := opened(t, d, 0, 3)
	var l []api.Entry
	for i := 1; i <= 30; i++ {
		l = append(l, entry(i, 1, mint(i%8, i)))
	}
	steps := []func() replica.Out{
		func() replica.Out { return r.Take(api.Msg{Kind: api.MsVote, From: 1, Term: 1}) }, r.Sync,
		func() replica.Out {
			return r.Take(api.Msg{Kind: api.MsAppend, From: 1, Term: 1, Round: 1, Commit: 2, Entries: l[:8]})
		},
		func() replica.Out {
			return r.Take(api.Msg{Kind: api.MsAppend, From: 1, Term: 1, Index: 8, LogTerm: 1, Round: 2, Commit: 16, Entries: l[8:16]})
		},
		r.Sync,
		func() replica.Out {
			return r.Take(api.Msg{Kind: api.MsAppend, From: 1, Term: 1, Index: 16, LogTerm: 1, Round: 3, Commit: 16, Entries: l[16:20]})
		},
		r.Sync,
		func() replica.Out {
			return r.Take(api.Msg{Kind: api.MsAppend, From: 2, Term: 2, Index: 18, LogTerm: 1, Round: 1, Commit: 19, Entries: []api.Entry{entry(19, 2, mint(1, 99))}})
		},
		r.Sync, r.Tick,
	}
	sure := r.View()
	for i, does := range steps {
		out := does()
		if v := r.View(); len(out.Msgs) > 0 {
			sure = v
		}
		for keep := range d.Loose() + 1 {
			again(t, fmt.Sprint("step ", i, ", ", keep, " bytes stay"), d, keep, sure)
		}
	}
	as(t, "at last", r, api.RaftView{Term: 2, Leader: 3, Commit: 19, Base: 16, Last: 19, LastTerm: 2, Conf: 7})
}

// again looks whether a copy of d that crashed opens with what the vault says.
func again(t *testing.T, what string, d *disk.Disk, keep int, sure api.RaftView) {
	t.Helper()
	c := d.Copy()
	c.Crash([]int{keep})
	_, s, e := vault.Open(c.Copy(), begun(lane, 3, amount))
	if e != api.OK {
		t.Fatalf("%s: %d", what, e)
	}
	r := opened(t, c, 0, 3)
	as(t, what, r, api.RaftView{Term: s.Term, Vote: s.Vote, Commit: s.Base, Base: s.Base, Last: s.Base + len(s.Entries), LastTerm: r.View().LastTerm, Conf: 7})
	if b, _ := machine.Encode(r.Machine()); !slices.Equal(b, s.Snap) {
		t.Errorf("%s: the machine is another one", what)
	}
	v := r.View()
	cutInOtherTerm := v.Term > sure.Term && v.Last >= 18
	if v.Term < sure.Term || v.Term == sure.Term && v.Vote != sure.Vote && sure.Vote != 0 || v.Last < sure.Last && !cutInOtherTerm {
		t.Errorf("%s: %+v, told %+v", what, v, sure)
	}
}
