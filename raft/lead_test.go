package raft_test

import (
	"slices"
	"testing"

	"bailey/api"
	"bailey/raft"
	"bailey/record"
	"bailey/rlog"
)

// refused looks whether Propose answers that error, and changes nothing.
func refused(t *testing.T, what string, n *node, kind int, data []byte, want api.Errno) {
	t.Helper()
	was := n.View()
	index, term, e, out := n.Propose(kind, data)
	if index != 0 || term != 0 || e != want {
		t.Errorf("%s: %d, %d, %d, not %d", what, index, term, e, want)
	}
	gives(t, what, out, raft.Out{})
	stands(t, what, n, was)
}

// P17.4: the entry is laid behind the log, recorded and sent.
func TestPropose(t *testing.T) {
	n := leader(t, 1, behind(3, 2, 5, 7, 2))
	l := []api.Entry{nothing(5, 6)}
	for i, data := range [][]byte{nil, {}, []byte("x"), make([]byte, api.MaxEntry)} {
		index, term, e, out := n.Propose(api.EnCommand, data)
		if index != 6+i || term != 6 || e != api.OK {
			t.Fatalf("%d: %d, %d, %d", i, index, term, e)
		}
		want := api.Entry{Index: index, Term: 6, Kind: api.EnCommand, Data: data}
		l = append(l, want)
		gives(t, "proposed", out, both(records(laid(want)), appends(1, 0, 6, 4, 2, 3, 2+i, l...), appends(1, 2, 6, 4, 2, 3, 2+i, l...)))
	}
	alone := lonely(t, 6, saved(0, 64))
	index, term, e, out := alone.Propose(api.EnCommand, []byte("y"))
	if index != 2 || term != 1 || e != api.OK {
		t.Errorf("alone: %d, %d, %d", index, term, e)
	}
	gives(t, "alone", out, write(laid(api.Entry{Index: 2, Term: 1, Kind: api.EnCommand, Data: []byte("y")})))
}

// P17.4: the errors, of which the first one that applies is told.
func TestProposeWrong(t *testing.T) {
	long := make([]byte, api.MaxEntry+1)
	for _, n := range inRoles(t)[:3] {
		refused(t, "who does not lead", n, api.EnCommand, nil, api.ErrLeader)
		refused(t, "who does not lead, all else wrong", n, 9, long, api.ErrLeader)
	}
	n := settled(t, 1, saved(5, 7, 1))
	for _, kind := range []int{least, -1, api.EnNothing, 3, 257, greatest} {
		refused(t, "another kind", n, kind, nil, api.ErrArg)
		refused(t, "another kind, too long", n, kind, long, api.ErrArg)
	}
	refused(t, "too long", n, api.EnCommand, long, api.ErrLong)
	refused(t, "a change, too long", n, api.EnConf, long, api.ErrLong)
	for range 38 {
		n.Propose(api.EnCommand, nil)
	}
	refused(t, "the log is full", n, api.EnCommand, nil, api.ErrBusy)
	refused(t, "the log is full, too long", n, api.EnCommand, long, api.ErrLong)
	refused(t, "the log is full, no members", n, api.EnConf, nil, api.ErrBusy)
}

// P17.4: as long as there are less than 40 entries behind the snapshot.
func TestProposeBusy(t *testing.T) {
	n := settled(t, 1, behind(3, 2, 5, 7))
	for range 39 {
		if _, _, e, _ := n.Propose(api.EnCommand, nil); e != api.OK {
			t.Fatalf("%d, behind %+v", e, n.View())
		}
	}
	if v := n.View(); v.Last != 43 {
		t.Fatal(v)
	}
	refused(t, "40 entries", n, api.EnCommand, nil, api.ErrBusy)
	n.Compact(4, nil)
	if _, _, e, _ := n.Propose(api.EnCommand, nil); e != api.OK {
		t.Errorf("39 entries: %d", e)
	}
	refused(t, "40 entries again", n, api.EnCommand, nil, api.ErrBusy)
	// With so many at its beginning it has more: it leads all the same.
	full := leader(t, 0, saved(1, 7, slices.Repeat([]int{1}, 41)...))
	refused(t, "42 entries", full, api.EnCommand, nil, api.ErrBusy)
}

// P17.4: members change one at a time, behind an entry of the term.
func TestProposeConf(t *testing.T) {
	n := leader(t, 1, saved(5, 7, 1, 1))
	data := rlog.ConfData(15)
	refused(t, "nothing is committed", n, api.EnConf, data, api.ErrConf)
	n.Synced(3)
	refused(t, "nothing is committed", n, api.EnConf, data, api.ErrConf)
	n.Take(reply(0, 1, 6, 3, 1, true))
	for _, wrong := range []int{7, 31, 8, 9, 0, 128 + 7} {
		refused(t, "members that may not be", n, api.EnConf, rlog.ConfData(wrong), api.ErrConf)
	}
	for _, wrong := range []string{"", "\x00", "\x0f\x00", "\x80\x0f", "\xff\x7f", "x"} {
		refused(t, "data that say no members", n, api.EnConf, []byte(wrong), api.ErrConf)
	}
	index, term, e, out := n.Propose(api.EnConf, data)
	if index != 4 || term != 6 || e != api.OK {
		t.Fatalf("%d, %d, %d", index, term, e)
	}
	// The node 3 is one from now on: next there is what it was when it led.
	first, entry := nothing(3, 6), change(4, 6, 15)
	gives(t, "changed", out, both(records(laid(entry)), appends(1, 0, 6, 3, 6, 3, 2, entry), appends(1, 2, 6, 2, 1, 3, 2, first, entry), appends(1, 3, 6, 2, 1, 3, 2, first, entry)))
	if n.Conf() != 15 {
		t.Errorf("conf %d", n.Conf())
	}
	for _, conf := range []int{7, 14, 31} {
		refused(t, "another change", n, api.EnConf, rlog.ConfData(conf), api.ErrConf)
	}
	n.Propose(api.EnCommand, nil)
	n.Synced(5)
	n.Take(reply(0, 1, 6, 4, 2, true))
	refused(t, "half of them have it", n, api.EnConf, rlog.ConfData(31), api.ErrConf)
	n.Take(reply(3, 1, 6, 4, 2, true))
	upto(t, "more than half of them have it", n, 4)
	refused(t, "two at once, of the new members", n, api.EnConf, rlog.ConfData(6), api.ErrConf)
	if index, _, e, _ := n.Propose(api.EnConf, rlog.ConfData(31)); index != 6 || e != api.OK {
		t.Errorf("the next change: %d, %d", index, e)
	}
}

// P17.4: an earlier leader's change stands in the way till it is committed; one
// that says no members, too.
func TestProposeConfEarlier(t *testing.T) {
	for _, data := range []string{"\x0f", "", "what"} {
		s := saved(5, 7, 1)
		s.Entries = append(s.Entries, api.Entry{Index: 2, Term: 5, Kind: api.EnConf, Data: []byte(data)})
		n := leader(t, 1, s)
		refused(t, "nothing is committed", n, api.EnConf, rlog.ConfData(3), api.ErrConf)
		n.Synced(3)
		n.Take(reply(0, 1, 6, 3, 1, true))
		n.Take(reply(2, 1, 6, 3, 1, true))
		n.Propose(api.EnCommand, nil)
		if _, _, e, _ := n.Propose(api.EnConf, rlog.ConfData(n.Conf()&^1)); e != api.OK {
			t.Errorf("%q is committed: %d", data, e)
		}
	}
	// Behind a snapshot of an earlier term nothing of its own is committed.
	n := leader(t, 1, behind(3, 5, 5, 7))
	refused(t, "a snapshot of an earlier term", n, api.EnConf, rlog.ConfData(15), api.ErrConf)
}

// P17.4: behind the last number that an entry may have there is none to come;
// nothing is recorded that may not be.
func TestProposeEnd(t *testing.T) {
	n := begin(t, 0, api.Saved{Term: 3, Conf: 1, Base: top, BaseTerm: 3})
	gives(t, "it leads", asking(n), write(hard(4, 1)))
	refused(t, "behind the last number", n, api.EnCommand, nil, api.ErrArg)
}

// P17.5: nobody but a leader reads, and no leader ahead of an entry of its term.
func TestReadWrong(t *testing.T) {
	wrong := func(what string, n *node, want api.Errno) {
		t.Helper()
		was := n.View()
		ticket, e, out := n.Read()
		if ticket != 0 || e != want {
			t.Errorf("%s: %d, %d", what, ticket, e)
		}
		gives(t, what, out, raft.Out{})
		stands(t, what, n, was)
	}
	for _, n := range inRoles(t)[:3] {
		wrong("who does not lead", n, api.ErrLeader)
	}
	n := leader(t, 1, saved(5, 7, 1))
	wrong("nothing is committed", n, api.ErrBusy)
	n.Synced(2)
	n.Take(reply(0, 1, 6, 1, 1, true))
	wrong("an entry of another term", n, api.ErrBusy)
	n.Take(reply(0, 1, 6, 2, 1, true))
	if ticket, e, _ := n.Read(); ticket != 1 || e != api.OK {
		t.Errorf("committed: %d, %d", ticket, e)
	}
	wrong("a snapshot of an earlier term", leader(t, 1, behind(3, 5, 5, 7)), api.ErrBusy)
}

// answers looks whether just these reads are answered, as ticket and index.
func answers(t *testing.T, what string, n *node, want ...[2]int) {
	t.Helper()
	var l []api.Answer
	for _, x := range want {
		l = append(l, api.Answer{Seq: x[0], Index: x[1]})
	}
	got := n.Reads()
	if !slices.EqualFunc(got, l, sameAnswer) {
		t.Errorf("%s: %+v, not %+v", what, got, l)
	}
	if again := n.Reads(); len(again) != 0 {
		t.Errorf("%s: told again: %+v", what, again)
	}
}

func sameAnswer(a, b api.Answer) bool {
	return a.ID == b.ID && a.Client == b.Client && a.Seq == b.Seq && a.Read == b.Read && a.Index == b.Index && len(a.Bytes) == 0 && len(b.Bytes) == 0
}

// P17.5: a read calls, and waits for more than half to hear that round.
func TestRead(t *testing.T) {
	n := leader(t, 1, saved(5, 31, 1)) // 1, and 2 of its own
	n.Synced(2)
	n.Take(reply(0, 1, 6, 2, 1, true))
	n.Take(reply(2, 1, 6, 2, 1, true))
	first := nothing(2, 6)
	ticket, e, out := n.Read()
	if ticket != 1 || e != api.OK {
		t.Fatalf("%d, %d", ticket, e)
	}
	gives(t, "it calls", out, send(appends(1, 0, 6, 2, 6, 2, 2), appends(1, 2, 6, 2, 6, 2, 2), appends(1, 3, 6, 1, 1, 2, 2, first), appends(1, 4, 6, 1, 1, 2, 2, first)))
	answers(t, "nobody heard", n)
	n.Take(reply(0, 1, 6, 2, 2, true))
	n.Take(reply(0, 1, 6, 2, 2, true))
	n.Take(reply(2, 1, 6, 2, 1, true)) // the round ahead
	n.Take(reply(3, 1, 5, 2, 2, true)) // another term
	n.Take(reply(3, 1, 6, 3, 2, true)) // more than there is
	n.Take(reply(6, 1, 6, 2, 2, true)) // no member
	answers(t, "too few heard", n)
	n.Take(reply(4, 1, 6, 0, 2, false)) // a no is heard too
	answers(t, "enough heard", n, [2]int{1, 2})
}

// P17.5: reads wait each for their round, and are told in order, with what was
// committed when they were asked for.
func TestReadsOrder(t *testing.T) {
	n := settled(t, 1, saved(5, 7, 1)) // 1, and 2 of its own, round 1
	n.Read()                           // round 2
	n.Read()                           // round 3
	n.Propose(api.EnCommand, nil)      // round 4
	n.Synced(3)
	n.Read() // round 5
	n.Take(reply(0, 1, 6, 3, 2, true))
	answers(t, "the first round", n, [2]int{1, 2})
	n.Read() // round 6, 3 is committed
	n.Take(reply(2, 1, 6, 2, 5, true))
	n.Take(reply(2, 1, 6, 2, 1, true)) // late
	answers(t, "two and three", n, [2]int{2, 2}, [2]int{3, 2})
	n.Take(reply(0, 1, 6, 2, 5, true))
	answers(t, "not yet", n)
	n.Take(reply(0, 1, 6, 2, top, true)) // of a round above its own: its own
	answers(t, "the last one", n, [2]int{4, 3})
	n.Read() // round 7
	answers(t, "a round above its own does not count beyond that", n)
	n.Take(reply(0, 1, 6, 2, 7, true))
	answers(t, "the next one", n, [2]int{5, 3})
}

// P17.5: the only member reads at once; of two one is too few.
func TestReadAlone(t *testing.T) {
	n := lonely(t, 3, saved(0, 8))
	n.Synced(1)
	ticket, e, out := n.Read()
	gives(t, "alone", out, raft.Out{})
	if ticket != 1 || e != api.OK {
		t.Errorf("alone: %d, %d", ticket, e)
	}
	answers(t, "alone", n, [2]int{1, 1})
	n.Propose(api.EnConf, rlog.ConfData(9))
	n.Read()
	answers(t, "of two", n)
	n.Take(reply(0, 3, 1, 1, 3, true)) // the round of the proposal
	answers(t, "of two", n)
	n.Take(reply(0, 3, 1, 1, 4, true))
	answers(t, "both", n, [2]int{2, 1})
}

// P17.5: of a leader that is no member any more it takes more than half of the others.
func TestReadNoMember(t *testing.T) {
	n := settled(t, 1, saved(5, 7, 1))
	n.Propose(api.EnConf, rlog.ConfData(5))
	n.Read() // round 3
	n.Take(reply(0, 1, 6, 2, 3, true))
	answers(t, "one of two", n)
	n.Take(reply(2, 1, 6, 2, 3, true))
	answers(t, "two of two", n, [2]int{1, 2})
}

// P17.5: who leads no more forgets its reads; tickets go on.
func TestReadsForgotten(t *testing.T) {
	n := settled(t, 1, saved(5, 7, 1))
	n.Read()
	n.Read()
	n.Take(appends(0, 1, 7, 2, 6, 2, 1))
	n.Take(reply(0, 1, 6, 2, 9, true))
	answers(t, "it follows", n)
	asking(n)
	n.Take(preReply(2, 1, 8, true))
	n.Take(voteReply(2, 1, 8, true))
	n.is(api.Leader, 8).Synced(3)
	n.Take(reply(0, 1, 8, 3, 1, true))
	answers(t, "it leads again", n)
	if ticket, e, _ := n.Read(); ticket != 3 || e != api.OK {
		t.Errorf("the next ticket: %d, %d", ticket, e)
	}
	n.Take(reply(2, 1, 8, 3, 2, true))
	answers(t, "it reads again", n, [2]int{3, 3})
}

// P17.5: reads that enough heard wait no more either, once it follows.
func TestReadsForgottenHeard(t *testing.T) {
	for _, m := range []api.Msg{appends(0, 1, 7, 2, 6, 2, 1), snaps(0, 1, 7, 0, 0, 1, 7, ""), reply(0, 1, 7, 0, 1, false), voteReply(0, 1, 7, false), preReply(0, 1, 7, false)} {
		n := settled(t, 1, saved(5, 7, 1))
		n.Read()
		n.Take(reply(0, 1, 6, 2, 2, true))
		n.Take(m)
		n.is(api.Follower, 7)
		answers(t, "it follows", n)
	}
}

// P17.5: what was heard in an earlier term does not count.
func TestReadsHeardAnew(t *testing.T) {
	n := settled(t, 1, saved(5, 7, 1))
	for range 5 {
		n.Read()
	}
	n.Take(reply(0, 1, 6, 2, 6, true))
	n.Take(reply(2, 1, 6, 2, 6, true))
	n.Take(appends(0, 1, 7, 2, 6, 2, 1))
	asking(n)
	n.Take(preReply(2, 1, 8, true))
	n.Take(voteReply(2, 1, 8, true))
	n.is(api.Leader, 8).Synced(3)
	n.Take(reply(0, 1, 8, 3, 1, true))
	_, _, out := n.Read()
	gives(t, "rounds begin anew", out, send(appends(1, 0, 8, 3, 8, 3, 2), appends(1, 2, 8, 2, 6, 3, 2, nothing(3, 8))))
	answers(t, "heard in an earlier term", n)
}

// P17.6: what is sure at home counts for a leader, up to Last, and never less.
func TestSynced(t *testing.T) {
	n := leader(t, 1, behind(3, 2, 5, 7, 2)) // 4, and 5 of its own
	n.Take(reply(0, 1, 6, 5, 1, true))
	for _, sure := range []int{least, -1, 0, 3, 4} {
		gives(t, "below", n.Synced(sure), raft.Out{})
		upto(t, "below", n, 3)
	}
	gives(t, "just so", n.Synced(5), raft.Out{})
	upto(t, "just so", n, 5)
	n.Propose(api.EnCommand, nil)
	n.Synced(greatest) // all that there is, but not what comes
	n.Synced(0)
	n.Take(reply(0, 1, 6, 6, 1, true))
	upto(t, "above Last", n, 6)
	n.Propose(api.EnCommand, nil)
	n.Take(reply(0, 1, 6, 7, 1, true))
	upto(t, "not synced", n, 6)
	n.Take(reply(2, 1, 6, 7, 1, true))
	upto(t, "without it", n, 7)
}

// P17.6: who does not lead has nothing of it; what was sure ahead of leading
// has to be said again.
func TestSyncedNoLeader(t *testing.T) {
	for _, n := range inRoles(t)[:3] {
		was := n.View()
		for _, sure := range []int{0, 2, greatest} {
			gives(t, "no leader", n.Synced(sure), raft.Out{})
			stands(t, "no leader", n, was)
		}
	}
	only := begin(t, 4, saved(5, 16, 1, 5))
	only.Synced(2)
	upto(t, "the only member, ahead of leading", only, 0)
	n := candidate(t, 1, saved(5, 7, 1))
	n.Synced(greatest)
	n.Take(voteReply(0, 1, 6, true))
	n.Take(reply(0, 1, 6, 2, 1, true))
	upto(t, "not said again", n, 0)
	n.Synced(2)
	upto(t, "said again", n, 2)
}

// P17.6: a leader that its own sync leaves out leads no more.
func TestSyncedLeftOut(t *testing.T) {
	n := leader(t, 1, saved(5, 3, 1))
	n.Synced(2)
	n.Take(reply(0, 1, 6, 2, 1, true))
	n.Propose(api.EnConf, rlog.ConfData(1))
	n.Take(reply(0, 1, 6, 2, 2, true))
	gives(t, "its own sync does not count", n.Synced(3), raft.Out{})
	n.is(api.Leader, 6)
	upto(t, "its own sync does not count", n, 2)
	n.Take(reply(0, 1, 6, 3, 2, true))
	stands(t, "left out", n, api.RaftView{Term: 6, Vote: 2, Commit: 3, Last: 3, LastTerm: 6, Conf: 1})
	// What is committed behind the change, by a sync of another one's log.
	s := saved(5, 2, 1)
	s.Entries = append(s.Entries, change(2, 1, 3), change(3, 1, 2))
	alone := lonely(t, 1, s)
	gives(t, "alone", alone.Synced(4), raft.Out{})
	stands(t, "alone", alone, api.RaftView{Term: 6, Vote: 2, Role: api.Leader, Leader: 2, Commit: 4, Last: 4, LastTerm: 6, Conf: 2})
}

// P17.6: above Base and at most at commit; nothing else changes.
func TestCompact(t *testing.T) {
	s := behind(3, 2, 5, 7, 2)
	s.Entries = append(s.Entries, change(5, 3, 15), entry(6, 3), change(7, 5, 31))
	n := begin(t, 1, s)
	n.Take(appends(0, 1, 5, 6, 3, 6, 1))
	was := n.View()
	for _, index := range []int{least, -1, 0, 2, 3, 7, 8, top, greatest} {
		if e := n.Compact(index, []byte("new")); e != api.ErrArg {
			t.Errorf("at %d: %d", index, e)
		}
		stands(t, "not compacted", n, was)
	}
	if string(n.Snap()) != "snap" {
		t.Errorf("the snapshot: %q", n.Snap())
	}
	for _, index := range []int{4, 6} {
		if e := n.Compact(index, []byte{byte(index)}); e != api.OK || !slices.Equal(n.Snap(), []byte{byte(index)}) {
			t.Errorf("at %d: %d, %q", index, e, n.Snap())
		}
		was.Base = index
		stands(t, "compacted", n, was)
		if e := n.Compact(index, nil); e != api.ErrArg {
			t.Errorf("at %d again: %d", index, e)
		}
	}
	want := api.Saved{Term: 5, Base: 6, BaseTerm: 3, Conf: 15, Snap: []byte{6}, Entries: []api.Entry{change(7, 5, 31)}}
	if !record.SameSaved(n.Saved(), want) {
		t.Errorf("%+v, not %+v", n.Saved(), want)
	}
}

// P17.6: what was compacted is sent as the snapshot, with the members up to there.
func TestCompactLeader(t *testing.T) {
	n := settled(t, 1, saved(5, 7, 1)) // 1, and 2 of its own
	n.Propose(api.EnConf, rlog.ConfData(15))
	n.Synced(3)
	n.Take(reply(0, 1, 6, 3, 2, true))
	n.Take(reply(2, 1, 6, 3, 2, true))
	if n.Compact(3, []byte("three")) != api.OK {
		t.Fatal("not compacted")
	}
	_, _, _, out := n.Propose(api.EnConf, rlog.ConfData(7))
	entry := change(4, 6, 7)
	gives(t, "the node 3 is no member", out, both(records(laid(entry)), appends(1, 0, 6, 3, 6, 3, 3, entry), appends(1, 2, 6, 3, 6, 3, 3, entry)))
	gives(t, "who has less", n.Take(reply(3, 1, 6, 1, 3, false)), send(snaps(1, 3, 6, 3, 6, 3, 15, "three")))
	gives(t, "who has it", n.Take(reply(3, 1, 6, 3, 3, true)), send(appends(1, 3, 6, 3, 6, 3, 3, entry)))
	// Once its commit is in the snapshot, it still knows that it is of its term.
	if _, e, _ := n.Read(); e != api.OK {
		t.Errorf("behind a compaction: %d", e)
	}
}
