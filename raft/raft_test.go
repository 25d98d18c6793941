package raft_test

import (
	"bytes"
	"fmt"
	"math"
	"slices"
	"testing"

	"bailey/api"
	"bailey/ballot"
	"bailey/msg"
	"bailey/raft"
	"bailey/record"
	"bailey/rlog"
)

const (
	top      = api.MaxNum
	least    = math.MinInt
	greatest = math.MaxInt
)

// entry is a command's entry, whose data tell its number and term.
func entry(index, term int) api.Entry {
	return api.Entry{Index: index, Term: term, Kind: api.EnCommand, Data: []byte{byte(index), byte(term)}}
}

// nothing is the entry with which a leader begins its term.
func nothing(index, term int) api.Entry { return api.Entry{Index: index, Term: term} }

// change is an entry that says members.
func change(index, term, conf int) api.Entry {
	return api.Entry{Index: index, Term: term, Kind: api.EnConf, Data: rlog.ConfData(conf)}
}

// saved is what a node of those members saved in that term: entries of the
// terms, behind the base 0.
func saved(term, conf int, terms ...int) api.Saved {
	return behind(0, 0, term, conf, terms...)
}

// behind is the same behind a base of that term.
func behind(base, baseTerm, term, conf int, terms ...int) api.Saved {
	s := api.Saved{Term: term, Base: base, BaseTerm: baseTerm, Conf: conf}
	if base > 0 {
		s.Snap = []byte("snap")
	}
	for i, n := range terms {
		s.Entries = append(s.Entries, entry(base+1+i, n))
	}
	return s
}

func hard(term, vote int) api.Record { return api.Record{Kind: api.RcHard, Term: term, Vote: vote} }
func laid(e api.Entry) api.Record    { return api.Record{Kind: api.RcEntry, Entry: e} }
func cut(index int) api.Record       { return api.Record{Kind: api.RcCut, Index: index} }

func pre(from, to, term, index, logTerm int) api.Msg {
	return api.Msg{Kind: api.MsPre, From: from, To: to, Term: term, Index: index, LogTerm: logTerm}
}

func preReply(from, to, term int, ok bool) api.Msg {
	return api.Msg{Kind: api.MsPreReply, From: from, To: to, Term: term, OK: ok}
}

func vote(from, to, term, index, logTerm int) api.Msg {
	return api.Msg{Kind: api.MsVote, From: from, To: to, Term: term, Index: index, LogTerm: logTerm}
}

func voteReply(from, to, term int, ok bool) api.Msg {
	return api.Msg{Kind: api.MsVoteReply, From: from, To: to, Term: term, OK: ok}
}

func appends(from, to, term, prev, prevTerm, commit, round int, l ...api.Entry) api.Msg {
	return api.Msg{Kind: api.MsAppend, From: from, To: to, Term: term, Index: prev, LogTerm: prevTerm, Commit: commit, Round: round, Entries: l}
}

func reply(from, to, term, index, round int, ok bool) api.Msg {
	return api.Msg{Kind: api.MsReply, From: from, To: to, Term: term, Index: index, Round: round, OK: ok}
}

func snaps(from, to, term, index, logTerm, round, conf int, data string) api.Msg {
	return api.Msg{Kind: api.MsSnap, From: from, To: to, Term: term, Index: index, LogTerm: logTerm, Round: round, Conf: conf, Data: []byte(data)}
}

func send(l ...api.Msg) raft.Out                       { return raft.Out{Msgs: l} }
func write(l ...api.Record) raft.Out                   { return raft.Out{Records: l} }
func both(records []api.Record, l ...api.Msg) raft.Out { return raft.Out{Msgs: l, Records: records} }
func records(l ...api.Record) []api.Record             { return l }
func load(records []api.Record, l ...api.Msg) raft.Out {
	return raft.Out{Msgs: l, Records: records, Loaded: true}
}
func alike(a, b raft.Out) bool {
	return a.Loaded == b.Loaded && msg.SameAll(a.Msgs, b.Msgs) && slices.EqualFunc(a.Records, b.Records, record.Same)
}

// gives looks whether that is told, and nothing else.
func gives(t *testing.T, what string, got, want raft.Out) {
	t.Helper()
	if !alike(got, want) {
		t.Errorf("%s:\n%+v, not\n%+v", what, got, want)
	}
}

// node is one whose every call is looked at: what it records is what it has
// saved, what it sends may be and comes from it, and neither term, vote nor
// commit goes back (P17.7).
type node struct {
	*raft.Raft
	t     *testing.T
	me    int
	saved api.Saved
	ahead api.RaftView
}

// begin is a node that goes on from what it saved.
func begin(t *testing.T, me int, s api.Saved) *node {
	t.Helper()
	r := raft.New(me, s)
	if r == nil {
		t.Fatalf("node %d: none", me)
	}
	return &node{Raft: r, t: t, me: me, saved: s, ahead: r.View()}
}

func (n *node) see(out raft.Out) raft.Out {
	n.t.Helper()
	for _, r := range out.Records {
		next, e := record.Apply(n.saved, r)
		if e != api.OK {
			n.t.Fatalf("node %d: %+v can't be written: %d", n.me, r, e)
		}
		n.saved = next
	}
	if s := n.Saved(); !record.SameSaved(s, n.saved) {
		n.t.Fatalf("node %d: it has\n%+v, and wrote\n%+v", n.me, s, n.saved)
	}
	for _, m := range out.Msgs {
		if msg.Check(m) != api.OK || m.From != n.me {
			n.t.Fatalf("node %d: it sent %+v", n.me, m)
		}
	}
	v := n.View()
	if v.Term < n.ahead.Term || v.Commit < n.ahead.Commit || v.Term == n.ahead.Term && n.ahead.Vote != 0 && v.Vote != n.ahead.Vote {
		n.t.Fatalf("node %d: from %+v to %+v", n.me, n.ahead, v)
	}
	n.ahead = v
	return out
}

func (n *node) Tick() raft.Out           { n.t.Helper(); return n.see(n.Raft.Tick()) }
func (n *node) Take(m api.Msg) raft.Out  { n.t.Helper(); return n.see(n.Raft.Take(m)) }
func (n *node) Synced(upto int) raft.Out { n.t.Helper(); return n.see(n.Raft.Synced(upto)) }
func (n *node) Read() (int, api.Errno, raft.Out) {
	n.t.Helper()
	ticket, e, out := n.Raft.Read()
	return ticket, e, n.see(out)
}

func (n *node) Propose(kind int, data []byte) (int, int, api.Errno, raft.Out) {
	n.t.Helper()
	index, term, e, out := n.Raft.Propose(kind, data)
	return index, term, e, n.see(out)
}

func (n *node) Compact(index int, snap []byte) api.Errno {
	n.t.Helper()
	e := n.Raft.Compact(index, snap)
	if e == api.OK {
		n.saved = n.Saved()
	}
	n.see(raft.Out{})
	return e
}

// ticks lets so many ticks go by, of which nothing may come.
func (n *node) ticks(count int) *node {
	n.t.Helper()
	for i := range count {
		if out := n.Tick(); !alike(out, raft.Out{}) {
			n.t.Fatalf("node %d: at the tick %d of %d: %+v", n.me, i+1, count, out)
		}
	}
	return n
}

// asker, candidate and leader are nodes that came to it: with the yes of all
// other members.
func asker(t *testing.T, me int, s api.Saved) *node {
	t.Helper()
	n := begin(t, me, s).ticks(ballot.Timeout(me) - 1)
	n.Tick()
	return n.is(api.Asker, s.Term)
}

func candidate(t *testing.T, me int, s api.Saved) *node {
	t.Helper()
	n := asker(t, me, s)
	for x := range api.MaxNodes {
		if x != me {
			n.Take(preReply(x, me, s.Term+1, true))
		}
	}
	return n.is(api.Candidate, s.Term+1)
}

func leader(t *testing.T, me int, s api.Saved) *node {
	t.Helper()
	n := candidate(t, me, s)
	for x := range api.MaxNodes {
		if x != me {
			n.Take(voteReply(x, me, s.Term+1, true))
		}
	}
	return n.is(api.Leader, s.Term+1)
}

// lonely is a leader that is the only member.
func lonely(t *testing.T, me int, s api.Saved) *node {
	t.Helper()
	n := begin(t, me, s)
	asking(n)
	return n.is(api.Leader, s.Term+1)
}

// settled is a leader of the nodes 0 to 2 that has committed its first entry.
func settled(t *testing.T, me int, s api.Saved) *node {
	t.Helper()
	n := leader(t, me, s)
	last := n.View().Last
	n.Synced(last)
	n.Take(reply((me+1)%3, me, s.Term+1, last, 1, true))
	n.Take(reply((me+2)%3, me, s.Term+1, last, 1, true))
	if v := n.View(); v.Commit != last {
		t.Fatalf("it has not committed %d: %+v", last, v)
	}
	return n
}

// is looks whether the node has that role and term.
func (n *node) is(role, term int) *node {
	n.t.Helper()
	if v := n.View(); v.Role != role || v.Term != term {
		n.t.Fatalf("node %d: %+v, not role %d, term %d", n.me, v, role, term)
	}
	return n
}

// stands looks whether a node stands so.
func stands(t *testing.T, what string, n *node, want api.RaftView) {
	t.Helper()
	if got := n.View(); got != want {
		t.Errorf("%s:\n%+v, not\n%+v", what, got, want)
	}
}

// P17.1: a node is one of 0 to 6.
func TestNewNode(t *testing.T) {
	for _, me := range []int{least, -7, -1, 7, 8, 64, greatest} {
		if r := raft.New(me, saved(0, 7)); r != nil {
			t.Errorf("node %d: %+v", me, r.View())
		}
	}
	for me := range api.MaxNodes {
		if raft.New(me, saved(0, 7)) == nil || raft.New(me, api.Saved{}) == nil {
			t.Errorf("node %d: none", me)
		}
	}
}

// P17.1: a new node has what was saved, and nothing else.
func TestNewState(t *testing.T) {
	states := []api.Saved{
		{},
		saved(0, 7),
		{Term: 4, Vote: 3, Conf: 1},
		{Term: top, Vote: 7, Base: top - 2, BaseTerm: 9, Conf: 127, Snap: []byte("abc"), Entries: []api.Entry{{Index: top - 1, Term: 10}, {Index: top, Term: 11}}},
		behind(3, 2, 5, 7, 2, 3, 3),
		{Term: 5, Base: 3, BaseTerm: 2, Conf: 7, Entries: []api.Entry{entry(4, 2), change(5, 2, 15), change(6, 3, 31), entry(7, 3)}},
	}
	for i, s := range states {
		for me := range api.MaxNodes {
			n := begin(t, me, s)
			want := api.RaftView{Term: s.Term, Vote: s.Vote, Commit: s.Base, Base: s.Base, Last: s.Base, LastTerm: s.BaseTerm, Conf: s.Conf}
			for _, e := range s.Entries {
				want.Last, want.LastTerm = e.Index, e.Term
			}
			if i == len(states)-1 {
				want.Conf = 31
			}
			stands(t, "new", n, want)
			if n.Conf() != want.Conf || !bytes.Equal(n.Snap(), s.Snap) || !record.SameSaved(n.Saved(), s) {
				t.Errorf("state %d: conf %d, snapshot %q, saved %+v", i, n.Conf(), n.Snap(), n.Saved())
			}
			if l := n.Committed(s.Base + 1); len(l) != 0 || n.Reads() != nil {
				t.Errorf("state %d: committed %+v", i, l)
			}
		}
	}
}

// P17.1: of the entries the log has the first ones that follow one another.
func TestNewEntries(t *testing.T) {
	s := behind(3, 2, 5, 7, 2, 3, 3)
	s.Entries[2].Index = 7
	r := raft.New(1, s)
	s.Entries = s.Entries[:2]
	if v := r.View(); v.Last != 5 || v.LastTerm != 3 || !record.SameSaved(r.Saved(), s) {
		t.Errorf("%+v, %+v", v, r.Saved())
	}
}

// P17.1: Committed tells the entries up to commit, and not beyond.
func TestCommitted(t *testing.T) {
	n := begin(t, 1, behind(3, 2, 5, 7, 2, 3, 3, 5))
	n.Take(appends(0, 1, 5, 7, 5, 6, 1))
	for from, want := range map[int][]api.Entry{
		4: {entry(4, 2), entry(5, 3), entry(6, 3)}, 5: {entry(5, 3), entry(6, 3)}, 6: {entry(6, 3)}, 7: nil, 8: nil, 9: nil, top: nil, greatest: nil,
	} {
		if l := n.Committed(from); !slices.EqualFunc(l, want, record.SameEntry) {
			t.Errorf("from %d on: %+v", from, l)
		}
	}
	// What is not above Base is not in the log any more.
	for _, from := range []int{least, least + 1, -1, 0, 1, 2, 3} {
		for _, e := range n.Committed(from) {
			if e.Index <= 3 || e.Index > 6 {
				t.Errorf("from %d on: %+v", from, e)
			}
		}
	}
	n.Take(appends(0, 1, 5, 7, 5, 7, 1))
	if l := n.Committed(7); len(l) != 1 || !record.SameEntry(l[0], entry(7, 5)) {
		t.Errorf("all are committed: %+v", l)
	}
}

// P17.2: a member that hears of nobody asks behind its timeout, not a tick
// ahead, and again and again; nothing of that is recorded.
func TestTickAsks(t *testing.T) {
	for me := range api.MaxNodes {
		n := begin(t, me, behind(3, 2, 5, 127, 2, 3))
		for range 3 {
			n.ticks(10 + 3*me - 1)
			var want []api.Msg
			for x := range api.MaxNodes {
				if x != me {
					want = append(want, pre(me, x, 6, 5, 3))
				}
			}
			gives(t, "at its timeout", n.Tick(), send(want...))
			stands(t, "asker", n, api.RaftView{Term: 5, Role: api.Asker, Commit: 3, Base: 3, Last: 5, LastTerm: 3, Conf: 127})
		}
	}
}

// P17.2: it asks the other members alone; without entries the base is the last one.
func TestTickAsksMembers(t *testing.T) {
	gives(t, "of five", asking(begin(t, 2, behind(4, 3, 3, 0b1010101))), send(pre(2, 0, 4, 4, 3), pre(2, 4, 4, 4, 3), pre(2, 6, 4, 4, 3)))
	s := saved(1, 7, 1)
	s.Entries = append(s.Entries, change(2, 1, 15))
	gives(t, "the log's members", asking(begin(t, 0, s)), send(pre(0, 1, 2, 2, 1), pre(0, 2, 2, 2, 1), pre(0, 3, 2, 2, 1)))
}

// asking lets the node's timeout go by: what comes of its end.
func asking(n *node) raft.Out {
	n.t.Helper()
	n.ticks(ballot.Timeout(n.me) - 1)
	return n.Tick()
}

// P17.2: who is no member never asks, however long it waits.
func TestTickNoMember(t *testing.T) {
	for _, conf := range []int{0, 1, 0b1111011, 64} {
		n := begin(t, 2, saved(3, conf, 1))
		n.ticks(300)
		stands(t, "no member", n, api.RaftView{Term: 3, Last: 1, LastTerm: 1, Conf: conf})
	}
	// Once it is one, it does; what it heard from the leader began its wait anew.
	n := begin(t, 2, saved(3, 3, 1)).ticks(300)
	n.Take(appends(0, 2, 3, 1, 1, 1, 1, change(2, 3, 7)))
	gives(t, "a member now", asking(n), send(pre(2, 0, 4, 2, 3), pre(2, 1, 4, 2, 3)))
}

// P17.2: one member alone asks, stands and leads at once.
func TestAlone(t *testing.T) {
	for me := range api.MaxNodes {
		n := begin(t, me, saved(3, 1<<me, 1, 2))
		gives(t, "alone", asking(n), write(hard(4, me+1), laid(nothing(3, 4))))
		stands(t, "alone", n, api.RaftView{Term: 4, Vote: me + 1, Role: api.Leader, Leader: me + 1, Last: 3, LastTerm: 4, Conf: 1 << me})
		gives(t, "synced", n.Synced(3), raft.Out{})
		stands(t, "synced", n, api.RaftView{Term: 4, Vote: me + 1, Role: api.Leader, Leader: me + 1, Commit: 3, Last: 3, LastTerm: 4, Conf: 1 << me})
	}
	n := begin(t, 0, saved(0, 1)).ticks(9)
	gives(t, "the chapter's example", n.Tick(), write(hard(1, 1), laid(nothing(1, 1))))
	n.is(api.Leader, 1).ticks(20)
}

// P17.2: a leader calls at the third tick behind the last call.
func TestTickLeader(t *testing.T) {
	n := leader(t, 1, saved(2, 7, 1))
	for round := 2; round < 6; round++ {
		n.ticks(2)
		gives(t, "the third tick", n.Tick(), send(appends(1, 0, 3, 1, 1, 0, round, nothing(2, 3)), appends(1, 2, 3, 1, 1, 0, round, nothing(2, 3))))
	}
	n.ticks(2)
	n.Propose(api.EnCommand, nil)
	n.ticks(2)
	if out := n.Tick(); len(out.Msgs) != 2 || out.Msgs[0].Round != 7 {
		t.Errorf("behind a proposal: %+v", out)
	}
	// A leader never asks.
	for range 40 {
		n.Tick()
	}
	n.is(api.Leader, 3)
}

// P17.2: a leader that is no member calls too.
func TestTickLeaderNoMember(t *testing.T) {
	n := settled(t, 1, saved(2, 7, 1))
	_, _, e, out := n.Propose(api.EnConf, rlog.ConfData(5))
	entry := change(3, 3, 5)
	gives(t, "it leaves itself out", out, both(records(laid(entry)), appends(1, 0, 3, 2, 3, 2, 2, entry), appends(1, 2, 3, 2, 3, 2, 2, entry)))
	n.ticks(2)
	gives(t, "its tick", n.Tick(), send(appends(1, 0, 3, 2, 3, 2, 3, entry), appends(1, 2, 3, 2, 3, 2, 3, entry)))
	if e != api.OK || n.Conf() != 5 {
		t.Errorf("%d, conf %d", e, n.Conf())
	}
}

// P17.2: a candidate that waited for too long asks ahead of another term.
func TestTickCandidate(t *testing.T) {
	n := candidate(t, 1, saved(2, 7, 1))
	gives(t, "a candidate's timeout", asking(n), send(pre(1, 0, 4, 1, 1), pre(1, 2, 4, 1, 1)))
	stands(t, "asker again", n, api.RaftView{Term: 3, Vote: 2, Role: api.Asker, Last: 1, LastTerm: 1, Conf: 7})
	// The votes of the earlier term are gone.
	gives(t, "a late vote", n.Take(voteReply(0, 1, 3, true)), raft.Out{})
	gives(t, "a yes", n.Take(preReply(2, 1, 4, true)), both(records(hard(4, 2)), vote(1, 0, 4, 1, 1), vote(1, 2, 4, 1, 1)))
}

// P17.2: in the middle of all, an asker's and a candidate's wait begins anew.
func TestTickWaits(t *testing.T) {
	n := candidate(t, 2, saved(2, 7, 1))
	n.ticks(15)
	gives(t, "at its timeout", n.Tick(), send(pre(2, 0, 4, 1, 1), pre(2, 1, 4, 1, 1)))
	n.ticks(7)
	n.Take(preReply(0, 2, 4, true))
	n.is(api.Candidate, 4).ticks(15)
}

// Rule R5: what no call made.
func TestNoRaft(t *testing.T) {
	for _, r := range []*raft.Raft{nil, {}, new(raft.Raft), raft.New(7, saved(0, 7))} {
		if r.View() != (api.RaftView{}) || !record.SameSaved(r.Saved(), api.Saved{}) || r.Conf() != 0 || r.Snap() != nil || r.Reads() != nil {
			t.Error("it has something")
		}
		if r.Committed(0) != nil || r.Committed(1) != nil {
			t.Error("it has committed something")
		}
		for what, out := range map[string]raft.Out{"Tick": r.Tick(), "Take": r.Take(appends(0, 1, 1, 0, 0, 0, 0)), "Vote": r.Take(vote(1, 0, 1, 0, 0)), "Synced": r.Synced(1)} {
			gives(t, what, out, raft.Out{})
		}
		index, term, e, out := r.Propose(9, make([]byte, 5000))
		if index != 0 || term != 0 || e != api.ErrNil || !alike(out, raft.Out{}) {
			t.Errorf("Propose: %d, %d, %d, %+v", index, term, e, out)
		}
		ticket, e, out := r.Read()
		if ticket != 0 || e != api.ErrNil || !alike(out, raft.Out{}) {
			t.Errorf("Read: %d, %d, %+v", ticket, e, out)
		}
		if e := r.Compact(0, nil); e != api.ErrNil {
			t.Errorf("Compact: %d", e)
		}
	}
}

// Whatever was saved, no call panics.
func TestStrangeSaved(t *testing.T) {
	strange := []int{least, -1, 0, 1, 127, 128, top, top + 1, greatest}
	for _, a := range strange {
		for _, b := range strange {
			s := api.Saved{Term: a, Vote: b, Base: a, BaseTerm: b, Conf: b, Entries: []api.Entry{entry(1, 1), entry(a, b)}}
			r := raft.New(0, s)
			for range 40 {
				r.Tick()
				for kind := api.MsPre; kind <= api.MsGetReply; kind++ {
					r.Take(api.Msg{Kind: kind, From: 1, Term: max(0, min(r.View().Term, top)), OK: kind%2 == 0})
				}
			}
			r.Propose(api.EnConf, rlog.ConfData(3))
			r.Propose(api.EnCommand, nil)
			r.Read()
			r.Synced(b)
			r.Compact(b, nil)
			r.Committed(b)
			r.Reads()
			r.Saved()
		}
	}
}

// deep is s in memory of its own.
func deep(s api.Saved) api.Saved {
	s.Snap = slices.Clone(s.Snap)
	s.Entries = slices.Clone(s.Entries)
	for i := range s.Entries {
		s.Entries[i].Data = slices.Clone(s.Entries[i].Data)
	}
	return s
}

// spoilEntries writes over the entries, their data, and the room behind them.
func spoilEntries(l []api.Entry) {
	for i := range l {
		clear(l[i].Data[:cap(l[i].Data)])
	}
	clear(l[:cap(l)])
}

// spoil writes over all that was told.
func spoil(out raft.Out) {
	for _, m := range out.Msgs {
		spoilEntries(m.Entries)
		clear(m.Data[:cap(m.Data)])
	}
	for _, r := range out.Records {
		clear(r.Entry.Data[:cap(r.Entry.Data)])
		clear(r.Snap[:cap(r.Snap)])
	}
	clear(out.Msgs[:cap(out.Msgs)])
	clear(out.Records[:cap(out.Records)])
}

// Rule R3: what is handed in is neither kept nor changed, what is answered is
// the caller's own.
func TestNothingShared(t *testing.T) {
	s := behind(3, 2, 5, 7, 2, 3)
	kept := deep(s)
	n := raft.New(1, s)
	if !record.SameSaved(s, kept) {
		t.Error("New changed what was saved")
	}
	spoilEntries(s.Entries)
	clear(s.Snap)
	first := n.Saved()
	spoilEntries(first.Entries)
	clear(first.Snap)
	clear(n.Snap())
	if !record.SameSaved(n.Saved(), kept) || string(n.Snap()) != "snap" {
		t.Errorf("what was saved is shared: %+v", n.Saved())
	}
	m := appends(0, 1, 5, 5, 3, 7, 1, entry(6, 5), entry(7, 5))
	out := n.Take(m)
	if !msg.Same(m, appends(0, 1, 5, 5, 3, 7, 1, entry(6, 5), entry(7, 5))) {
		t.Errorf("Take changed its message: %+v", m)
	}
	spoilEntries(m.Entries)
	if len(out.Records) != 2 || !record.Same(out.Records[0], laid(entry(6, 5))) || !record.Same(out.Records[1], laid(entry(7, 5))) {
		t.Errorf("the records share the message: %+v", out.Records)
	}
	spoil(out)
	spoilEntries(n.Committed(4))
	want := append(kept.Entries, entry(6, 5), entry(7, 5))
	if l := n.Committed(4); !slices.EqualFunc(l, want, record.SameEntry) {
		t.Errorf("the entries are shared: %+v", l)
	}
	snap := []byte("later")
	if e := n.Compact(5, snap); e != api.OK {
		t.Fatal(e)
	}
	clear(snap)
	clear(n.Snap())
	if string(n.Snap()) != "later" {
		t.Errorf("the snapshot is shared: %q", n.Snap())
	}
	m = snaps(0, 1, 5, 9, 5, 1, 7, "loaded")
	out = n.Take(m)
	clear(m.Data)
	if string(out.Records[0].Snap) != "loaded" {
		t.Errorf("the record shares the message: %q", out.Records[0].Snap)
	}
	spoil(out)
	if string(n.Snap()) != "loaded" {
		t.Errorf("the snapshot is shared: %q", n.Snap())
	}
}

// Rule R3: what a leader proposes and sends, and no two lists of one answer.
func TestNothingSharedLeader(t *testing.T) {
	n := leader(t, 0, behind(3, 2, 5, 7, 2))
	data := []byte("data")
	_, _, _, out := n.Raft.Propose(api.EnCommand, data)
	clear(data)
	want := api.Entry{Index: 6, Term: 6, Kind: api.EnCommand, Data: []byte("data")}
	clear(out.Records[0].Entry.Data)
	clear(out.Msgs[0].Entries[1].Data)
	if !record.SameEntry(out.Msgs[1].Entries[1], want) {
		t.Errorf("what is told shares memory: %+v", out)
	}
	spoil(out)
	if l := n.Saved().Entries; !record.SameEntry(l[2], want) {
		t.Errorf("the log shares memory: %+v", l)
	}
	for _, x := range []int{1, 2} { // both are so far back that they get the snapshot
		spoil(n.Raft.Take(reply(x, 0, 6, 0, 1, false)))
	}
	n.Raft.Tick()
	n.Raft.Tick()
	out = n.Raft.Tick()
	if len(out.Msgs) != 2 || string(out.Msgs[0].Data) != "snap" {
		t.Fatalf("no snapshots: %+v", out)
	}
	clear(out.Msgs[0].Data)
	if string(out.Msgs[1].Data) != "snap" || string(n.Snap()) != "snap" {
		t.Errorf("snapshots share memory: %+v", out)
	}
}

// Rule R4: the same calls answer the same.
func TestSameCalls(t *testing.T) {
	a, b := leader(t, 3, saved(2, 127, 1, 2)), leader(t, 3, saved(2, 127, 1, 2))
	for i := range 60 {
		m := reply(i%3, 3, 3, i%5, i, i%2 == 0)
		if x, y := a.Take(m), b.Take(m); fmt.Sprint(x) != fmt.Sprint(y) {
			t.Fatalf("%+v and %+v", x, y)
		}
		if x, y := a.Tick(), b.Tick(); fmt.Sprint(x) != fmt.Sprint(y) || a.View() != b.View() {
			t.Fatalf("%+v and %+v", x, y)
		}
	}
}
