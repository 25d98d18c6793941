package raft_test

import (
	"fmt"
	"slices"
	"testing"

	"bailey/api"
	"bailey/raft"
	"bailey/record"
	"bailey/rlog"
)

// inRoles are the node 1 of the nodes 0 to 2 in each role, its term 6, its log
// the entries 1 and 2 of the terms 1 and 3, a leader's one more.
func inRoles(t *testing.T) []*node {
	t.Helper()
	s := saved(5, 7, 1, 3)
	follower := begin(t, 1, saved(6, 7, 1, 3))
	follower.Take(appends(2, 1, 6, 2, 3, 0, 0))
	return []*node{follower, asker(t, 1, saved(6, 7, 1, 3)), candidate(t, 1, s), leader(t, 1, s)}
}

// P17.3: nothing comes of what may not be, of what is another node's, and of
// messages that are not Raft's.
func TestTakeNothing(t *testing.T) {
	may := []api.Msg{
		pre(0, 1, 9, 9, 9), preReply(0, 1, 9, false), preReply(0, 1, 7, true), vote(0, 1, 9, 9, 9), voteReply(0, 1, 9, false), voteReply(0, 1, 6, true),
		appends(0, 1, 9, 2, 3, 2, 1, entry(3, 9)), reply(0, 1, 9, 1, 1, true), snaps(0, 1, 9, 9, 9, 1, 7, "x"),
	}
	var l []api.Msg
	for _, m := range may {
		for _, f := range []func(m *api.Msg){
			func(m *api.Msg) { m.To = 2 },
			func(m *api.Msg) { m.To = 6 },
			func(m *api.Msg) { m.To = 7 },
			func(m *api.Msg) { m.To = -1 },
			func(m *api.Msg) { m.From = 1 },
			func(m *api.Msg) { m.From = 7 },
			func(m *api.Msg) { m.From = -1 },
			func(m *api.Msg) { m.Term = top + 1 },
			func(m *api.Msg) { m.Term = -1 },
			func(m *api.Msg) { m.Index = top + 1 },
			func(m *api.Msg) { m.LogTerm = -1 },
			func(m *api.Msg) { m.Kind = 0 },
			func(m *api.Msg) { m.Kind = -1 },
			func(m *api.Msg) { m.Kind = 12 },
			func(m *api.Msg) { m.Sum = "x" },
			func(m *api.Msg) { m.Entries = append(slices.Repeat([]api.Entry{entry(3, 9)}, 8), entry(4, 9)) },
			func(m *api.Msg) { m.Entries = []api.Entry{{Index: 3, Term: 9, Kind: 3}} },
			func(m *api.Msg) { m.Data = make([]byte, 1<<17+1) },
		} {
			f(&m)
			l = append(l, m)
			m = may[0]
		}
	}
	for _, m := range may {
		m.To = 0
		m.From = 1
		l = append(l, m)
	}
	for kind := api.MsPut; kind <= api.MsGetReply; kind++ {
		l = append(l, api.Msg{Kind: kind, From: 0, To: 1, Term: 9})
	}
	for _, n := range inRoles(t) {
		was := n.View()
		for _, m := range l {
			gives(t, "what is not taken", n.Take(m), raft.Out{})
			stands(t, "behind what is not taken", n, was)
		}
	}
}

// P17.3, MsPre: who asks for a term above gets a yes of who is not deaf, if its
// log is fresh; whatever is told, nothing changes.
func TestPre(t *testing.T) {
	for role, n := range inRoles(t) {
		was := n.View()
		for _, x := range []struct {
			m  api.Msg
			ok bool // of who is not deaf
		}{
			{pre(0, 1, 5, 9, 9), false}, {pre(0, 1, 6, 9, 9), false}, {pre(0, 1, 0, 9, 9), false},
			{pre(0, 1, 7, 9, 9), true}, {pre(2, 1, 8, 9, 9), true}, {pre(6, 1, top, 9, 9), true},
			{pre(2, 1, 7, 2, 3), true}, {pre(2, 1, 7, 3, 3), true}, {pre(2, 1, 7, 1, 4), true}, {pre(2, 1, 7, 0, 4), true},
			{pre(2, 1, 7, 1, 3), false}, {pre(2, 1, 7, 9, 2), false}, {pre(2, 1, 7, 0, 0), false}, {pre(2, 1, top, top, 2), false},
		} {
			want := preReply(1, x.m.From, 6, false)
			if x.ok && role != api.Follower && role != api.Leader {
				want.OK, want.Term = true, x.m.Term
			}
			gives(t, fmt.Sprintf("role %d, %+v", role, x.m), n.Take(x.m), send(want))
			stands(t, "behind MsPre", n, was)
		}
	}
}

// P17.3, MsPre: who heard of a leader nine ticks ago is deaf, ten ticks ago no
// longer; a leader always; who knows none never. The wait goes on.
func TestPreDeaf(t *testing.T) {
	n := begin(t, 2, saved(6, 7, 1, 3))
	gives(t, "a new node", n.Take(pre(1, 2, 7, 2, 3)), send(preReply(2, 1, 7, true)))
	n.Take(appends(0, 2, 6, 2, 3, 0, 0))
	for range 10 {
		gives(t, "it knows a leader", n.Take(pre(1, 2, 7, 2, 3)), send(preReply(2, 1, 6, false)))
		n.ticks(1)
	}
	gives(t, "ten ticks", n.Take(pre(1, 2, 7, 2, 3)), send(preReply(2, 1, 7, true)))
	n.ticks(5)
	gives(t, "fifteen ticks", n.Take(pre(1, 2, 7, 2, 3)), send(preReply(2, 1, 7, true)))
	if out := n.Tick(); len(out.Msgs) != 2 || out.Msgs[0].Kind != api.MsPre {
		t.Errorf("its wait did not go on: %+v", out)
	}
	l := leader(t, 2, saved(6, 7, 1, 3))
	for range 30 {
		gives(t, "a leader", l.Take(pre(1, 2, 9, 9, 9)), send(preReply(2, 1, 7, false)))
		l.Tick()
	}
}

// P17.3, MsPreReply: more than half of the members, each counted once.
func TestPreReplyVotes(t *testing.T) {
	// Five members, one of which is asked for by the log alone.
	s := saved(6, 0b1101011, 1, 3)
	s.Entries = append(s.Entries, change(3, 3, 0b1001011), change(4, 3, 0b1011011))
	n := asker(t, 1, s)
	for _, m := range []api.Msg{
		preReply(0, 1, 7, true), preReply(0, 1, 7, true), preReply(2, 1, 7, true), preReply(5, 1, 7, true),
		preReply(3, 1, 6, false), preReply(3, 1, 0, false), preReply(3, 1, 6, true), preReply(4, 1, 8, true), preReply(6, 1, top, true), preReply(6, 1, 0, true),
	} {
		gives(t, "too few", n.Take(m), raft.Out{})
		n.is(api.Asker, 6)
	}
	gives(t, "enough", n.Take(preReply(4, 1, 7, true)),
		both(records(hard(7, 2)), vote(1, 0, 7, 4, 3), vote(1, 3, 7, 4, 3), vote(1, 4, 7, 4, 3), vote(1, 6, 7, 4, 3)))
	stands(t, "it stands", n, api.RaftView{Term: 7, Vote: 2, Role: api.Candidate, Last: 4, LastTerm: 3, Conf: 0b1011011})
	gives(t, "one more yes", n.Take(preReply(6, 1, 7, true)), raft.Out{})
	gives(t, "one more yes", n.Take(preReply(6, 1, 8, true)), raft.Out{})
	n.is(api.Candidate, 7)
}

// P17.3, MsPreReply: half of four members is too few; of two both are needed.
func TestPreReplyHalf(t *testing.T) {
	n := asker(t, 0, saved(0, 15))
	n.Take(preReply(3, 0, 1, true))
	n.is(api.Asker, 0).Take(preReply(1, 0, 1, true))
	n.is(api.Candidate, 1)
	n = asker(t, 0, saved(0, 3))
	n.Take(preReply(3, 0, 1, true))
	n.is(api.Asker, 0).Take(preReply(1, 0, 1, true))
	n.is(api.Candidate, 1)
}

// P17.3, MsPreReply: the yes of an earlier asking is gone.
func TestPreReplyAgain(t *testing.T) {
	n := asker(t, 1, saved(6, 31, 1))
	n.Take(preReply(0, 1, 7, true))
	n.ticks(12)
	n.Tick()
	n.Take(preReply(2, 1, 7, true))
	n.is(api.Asker, 6).Take(preReply(0, 1, 7, true))
	n.is(api.Candidate, 7)
}

// P17.3, MsPreReply: a no of a term above is followed, in each role; all else
// of who does not ask is nothing.
func TestPreReplyTerm(t *testing.T) {
	for role, n := range inRoles(t) {
		was := n.View()
		for _, m := range []api.Msg{preReply(0, 1, 6, false), preReply(0, 1, 5, false), preReply(0, 1, 6, true), preReply(0, 1, 8, true), preReply(2, 1, 5, true)} {
			gives(t, "nothing", n.Take(m), raft.Out{})
			stands(t, "behind MsPreReply", n, was)
		}
		if role != api.Asker {
			gives(t, "a yes", n.Take(preReply(0, 1, 7, true)), raft.Out{})
			stands(t, "behind a yes", n, was)
		}
		gives(t, "a no of a term above", n.Take(preReply(0, 1, 7, false)), write(hard(7, 0)))
		stands(t, "it follows", n, api.RaftView{Term: 7, Last: was.Last, LastTerm: was.LastTerm, Conf: 7})
	}
}

// P17.3, MsVote: of a term below; of the same one, where all but a follower
// gave their vote to themselves.
func TestVoteTerm(t *testing.T) {
	for role, n := range inRoles(t) {
		was := n.View()
		gives(t, "below", n.Take(vote(0, 1, 5, 9, 9)), send(voteReply(1, 0, 6, false)))
		gives(t, "far below", n.Take(vote(2, 1, 0, top, top)), send(voteReply(1, 2, 6, false)))
		stands(t, "below", n, was)
		switch role {
		case api.Follower, api.Asker:
			gives(t, "not fresh", n.Take(vote(0, 1, 6, 1, 3)), send(voteReply(1, 0, 6, false)))
			stands(t, "not fresh", n, was)
			gives(t, "the same", n.Take(vote(0, 1, 6, 2, 3)), both(records(hard(6, 1)), voteReply(1, 0, 6, true)))
			was.Vote = 1
			gives(t, "once more", n.Take(vote(0, 1, 6, 2, 3)), send(voteReply(1, 0, 6, true)))
			gives(t, "once more, not fresh", n.Take(vote(0, 1, 6, 2, 2)), send(voteReply(1, 0, 6, false)))
			gives(t, "another one", n.Take(vote(2, 1, 6, 9, 9)), send(voteReply(1, 2, 6, false)))
			stands(t, "the same", n, was)
		default:
			gives(t, "the same", n.Take(vote(0, 1, 6, 9, 9)), send(voteReply(1, 0, 6, false)))
			stands(t, "the same", n, was)
		}
	}
}

// P17.3, MsVote: of a term above who is not deaf follows, and gives its vote if
// the log is fresh.
func TestVoteAbove(t *testing.T) {
	for role := range 4 {
		for _, x := range []struct {
			m  api.Msg
			ok bool
		}{
			{vote(2, 1, 7, 9, 9), true}, {vote(0, 1, top, 2, 3), true}, {vote(6, 1, 9, 0, 4), true},
			{vote(2, 1, 7, 1, 3), false}, {vote(0, 1, 8, 9, 2), false}, {vote(0, 1, 8, 0, 0), false},
		} {
			n := inRoles(t)[role]
			was := n.View()
			if role == api.Follower || role == api.Leader {
				gives(t, "a deaf one", n.Take(x.m), raft.Out{})
				stands(t, "a deaf one", n, was)
				continue
			}
			if x.ok {
				gives(t, "fresh", n.Take(x.m), both(records(hard(x.m.Term, 0), hard(x.m.Term, x.m.From+1)), voteReply(1, x.m.From, x.m.Term, true)))
				stands(t, "fresh", n, api.RaftView{Term: x.m.Term, Vote: x.m.From + 1, Last: 2, LastTerm: 3, Conf: 7})
			} else {
				gives(t, "not fresh", n.Take(x.m), both(records(hard(x.m.Term, 0)), voteReply(1, x.m.From, x.m.Term, false)))
				stands(t, "not fresh", n, api.RaftView{Term: x.m.Term, Last: 2, LastTerm: 3, Conf: 7})
			}
		}
	}
}

// P17.3, MsVote: deaf for nine ticks behind a leader's message, not for ten; a
// leader always.
func TestVoteDeaf(t *testing.T) {
	n := begin(t, 2, saved(6, 7, 1, 3))
	n.Take(appends(0, 2, 6, 2, 3, 0, 0))
	for range 10 {
		gives(t, "it knows a leader", n.Take(vote(1, 2, 7, 2, 3)), raft.Out{})
		n.ticks(1)
	}
	gives(t, "ten ticks", n.Take(vote(1, 2, 7, 2, 3)), both(records(hard(7, 0), hard(7, 2)), voteReply(2, 1, 7, true)))
	l := leader(t, 2, saved(6, 7, 1, 3))
	for range 30 {
		gives(t, "a leader", l.Take(vote(1, 2, 9, 9, 9)), raft.Out{})
		l.Tick()
	}
	l.is(api.Leader, 7)
}

// P17.3, MsVote: who gives its vote waits anew; who does not waits on.
func TestVoteWait(t *testing.T) {
	n := begin(t, 0, saved(6, 7, 1, 3)).ticks(9)
	n.Take(vote(1, 0, 7, 2, 3))
	n.ticks(9)
	n.Take(vote(1, 0, 7, 2, 3)) // again: its vote was that already
	n.ticks(9)
	n.Take(vote(2, 0, 7, 2, 3))
	n.Take(vote(2, 0, 6, 2, 3))
	n.Take(vote(2, 0, 8, 1, 3))
	gives(t, "behind no votes", n.Tick(), send(pre(0, 1, 9, 2, 3), pre(0, 2, 9, 2, 3)))
}

// P17.3, MsVoteReply: more than half of the members, each counted once; then it
// leads, and calls with an entry of its own.
func TestVoteReplyVotes(t *testing.T) {
	s := behind(3, 2, 6, 0b1011011, 3, 3)
	n := candidate(t, 1, s)
	for _, m := range []api.Msg{
		voteReply(0, 1, 7, true), voteReply(0, 1, 7, true), voteReply(2, 1, 7, true), voteReply(5, 1, 7, true),
		voteReply(3, 1, 7, false), voteReply(3, 1, 6, true), voteReply(4, 1, 6, false), voteReply(6, 1, 0, true),
	} {
		gives(t, "too few", n.Take(m), raft.Out{})
		n.is(api.Candidate, 7)
	}
	first := nothing(6, 7)
	gives(t, "enough", n.Take(voteReply(4, 1, 7, true)), both(records(laid(first)),
		appends(1, 0, 7, 5, 3, 3, 1, first), appends(1, 3, 7, 5, 3, 3, 1, first), appends(1, 4, 7, 5, 3, 3, 1, first), appends(1, 6, 7, 5, 3, 3, 1, first)))
	want := api.RaftView{Term: 7, Vote: 2, Role: api.Leader, Leader: 2, Commit: 3, Base: 3, Last: 6, LastTerm: 7, Conf: 0b1011011}
	stands(t, "it leads", n, want)
	gives(t, "one more", n.Take(voteReply(6, 1, 7, true)), raft.Out{})
	gives(t, "one more", n.Take(voteReply(6, 1, 7, false)), raft.Out{})
	stands(t, "it leads on", n, want)
	n.ticks(2)
	gives(t, "it called", n.Tick(), send(
		appends(1, 0, 7, 5, 3, 3, 2, first), appends(1, 3, 7, 5, 3, 3, 2, first), appends(1, 4, 7, 5, 3, 3, 2, first), appends(1, 6, 7, 5, 3, 3, 2, first)))
}

// P17.3, MsVoteReply: a term above is followed, said with yes or no, in each
// role; what it says to who is no candidate is nothing.
func TestVoteReplyTerm(t *testing.T) {
	for role := range 4 {
		for _, ok := range []bool{false, true} {
			n := inRoles(t)[role]
			was := n.View()
			gives(t, "below", n.Take(voteReply(0, 1, 5, ok)), raft.Out{})
			if role != api.Candidate || !ok {
				gives(t, "the same", n.Take(voteReply(0, 1, 6, ok)), raft.Out{})
			}
			stands(t, "behind MsVoteReply", n, was)
			gives(t, "above", n.Take(voteReply(0, 1, 7, ok)), write(hard(7, 0)))
			stands(t, "it follows", n, api.RaftView{Term: 7, Last: was.Last, LastTerm: was.LastTerm, Conf: 7})
		}
	}
}

// P17.3, MsAppend and MsSnap: of a term below they are refused; of its own a
// leader takes nothing; all others follow.
func TestLeadersTerm(t *testing.T) {
	for role := range 4 {
		n := inRoles(t)[role]
		was := n.View()
		for _, m := range []api.Msg{appends(0, 1, 5, 2, 3, 2, 9, entry(3, 5)), snaps(0, 1, 5, 9, 5, 9, 7, "x"), appends(0, 1, 0, 0, 0, 0, 9), snaps(0, 1, 0, 0, 0, 9, 7, "")} {
			gives(t, "below", n.Take(m), send(reply(1, 0, 6, 0, 9, false)))
			stands(t, "below", n, was)
		}
		if role == api.Leader {
			for _, m := range []api.Msg{appends(0, 1, 6, 2, 3, 2, 9, entry(3, 5)), appends(0, 1, 6, 9, 3, 2, 9), snaps(0, 1, 6, 9, 5, 9, 7, "x"), snaps(0, 1, 6, 0, 0, 9, 7, "x")} {
				gives(t, "a leader, of its own term", n.Take(m), raft.Out{})
				stands(t, "a leader, of its own term", n, was)
			}
			n.ticks(2)
			if out := n.Tick(); len(out.Msgs) != 2 {
				t.Errorf("a leader's wait: %+v", out)
			}
			continue
		}
		gives(t, "the same", n.Take(appends(0, 1, 6, 2, 3, 1, 9)), send(reply(1, 0, 6, 2, 9, true)))
		stands(t, "the same", n, api.RaftView{Term: 6, Vote: was.Vote, Leader: 1, Commit: 1, Last: 2, LastTerm: 3, Conf: 7})
		n = inRoles(t)[role]
		gives(t, "the same, a snapshot", n.Take(snaps(0, 1, 6, 0, 3, 9, 7, "")), send(reply(1, 0, 6, 0, 9, true)))
		stands(t, "the same, a snapshot", n, api.RaftView{Term: 6, Vote: was.Vote, Leader: 1, Last: 2, LastTerm: 3, Conf: 7})
	}
}

// P17.3, MsAppend and MsSnap: a term above is followed in each role.
func TestLeadersTermAbove(t *testing.T) {
	for role := range 4 {
		n := inRoles(t)[role]
		was := n.View()
		gives(t, "above", n.Take(appends(2, 1, 8, 9, 9, 1, 4)), both(records(hard(8, 0)), reply(1, 2, 8, was.Last, 4, false)))
		want := api.RaftView{Term: 8, Leader: 3, Last: was.Last, LastTerm: was.LastTerm, Conf: 7}
		stands(t, "above", n, want)
		n = inRoles(t)[role]
		gives(t, "above, a snapshot", n.Take(snaps(2, 1, 8, 0, 9, 4, 7, "")), both(records(hard(8, 0)), reply(1, 2, 8, 0, 4, true)))
		stands(t, "above, a snapshot", n, want)
	}
}

// P17.3: whoever leads is heard, and its wait begins anew; of another term no.
func TestLeaderHeard(t *testing.T) {
	for _, m := range []api.Msg{appends(1, 0, 6, 2, 3, 0, 1), appends(1, 0, 6, 9, 9, 0, 1), appends(1, 0, 6, 2, 2, 0, 1), snaps(1, 0, 6, 0, 0, 1, 7, ""), snaps(1, 0, 6, 9, 6, 1, 7, "")} {
		n := begin(t, 0, saved(6, 7, 1, 3)).ticks(9)
		n.Take(m)
		n.ticks(9)
		n.Take(m)
		n.ticks(9)
		m.Term = 5
		n.Take(m)
		if v := n.View(); v.Leader != 2 {
			t.Errorf("it knows %d", v.Leader)
		}
		if out := n.Tick(); len(out.Msgs) != 2 || out.Msgs[0].Kind != api.MsPre {
			t.Errorf("behind a term below: %+v", out)
		}
	}
}

// appended is a MsAppend of the term 5 to a follower, and what comes of it.
type appended struct {
	what       string
	prev, term int
	commit     int
	l          []api.Entry
	ok         bool
	index      int // -1: nothing is answered
	records    []api.Record
	last, upto int // its Last and commit behind that
}

// isAppended looks at each row, with a new node 1 that has the entries 4 to 8
// of the terms 2, 3, 3, 5, 5 behind the base 3 of the term 2, and 5 committed.
func isAppended(t *testing.T, rows []appended) {
	t.Helper()
	for _, x := range rows {
		n := begin(t, 1, behind(3, 2, 5, 7, 2, 3, 3, 5, 5))
		n.Take(appends(0, 1, 5, 5, 3, 5, 1))
		want := raft.Out{Records: x.records}
		if x.index >= 0 {
			want.Msgs = []api.Msg{reply(1, 0, 5, x.index, 9, x.ok)}
		}
		gives(t, x.what, n.Take(appends(0, 1, 5, x.prev, x.term, x.commit, 9, x.l...)), want)
		v := n.View()
		if v.Last != x.last || v.Commit != x.upto || v.Leader != 1 || v.Role != api.Follower || v.Base != 3 {
			t.Errorf("%s: %+v", x.what, v)
		}
	}
}

// P17.3, MsAppend: what it has ahead of the entries.
func TestAppendPrev(t *testing.T) {
	isAppended(t, []appended{
		{"above Last", 9, 5, 9, nil, false, 8, nil, 8, 5},
		{"above Last, with entries", 9, 5, 9, []api.Entry{entry(10, 5)}, false, 8, nil, 8, 5},
		{"far above", top, 5, 9, nil, false, 8, nil, 8, 5},
		{"at Last", 8, 5, 0, nil, true, 8, nil, 8, 5},
		{"at Last, of another term", 8, 4, 9, nil, false, 7, nil, 8, 5},
		{"at Last, of another term, with entries", 8, 6, 9, []api.Entry{entry(9, 5)}, false, 7, nil, 8, 5},
		{"in between", 6, 3, 0, nil, true, 6, nil, 8, 5},
		{"in between, of another term", 6, 2, 9, nil, false, 5, nil, 8, 5},
		{"in between, of term 0", 6, 0, 9, nil, false, 5, nil, 8, 5},
		{"at Base", 3, 2, 0, nil, true, 3, nil, 8, 5},
		{"at Base, of another term", 3, 1, 9, nil, false, 2, nil, 8, 5},
		{"below Base", 2, 2, 9, nil, true, 2, nil, 8, 5},
		{"below Base, whatever its term", 2, 77, 9, nil, true, 2, nil, 8, 5},
		{"at 0", 0, 0, 9, nil, true, 0, nil, 8, 5},
		{"at 0, whatever its term", 0, 9, 9, nil, true, 0, nil, 8, 5},
	})
	n := begin(t, 1, behind(0, 0, 5, 7, 2))
	gives(t, "at the base 0, of another term", n.Take(appends(0, 1, 5, 0, 1, 9, 4)), send(reply(1, 0, 5, 0, 4, false)))
}

// P17.3, MsAppend: entries that it has, entries behind them, and others.
func TestAppendEntries(t *testing.T) {
	four, five, six, seven, eight := entry(4, 2), entry(5, 3), entry(6, 3), entry(7, 5), entry(8, 5)
	isAppended(t, []appended{
		{"behind Last", 8, 5, 0, []api.Entry{entry(9, 5)}, true, 9, records(laid(entry(9, 5))), 9, 5},
		{"more", 8, 5, 0, []api.Entry{entry(9, 5), change(10, 5, 3), nothing(11, 7)}, true, 11, records(laid(entry(9, 5)), laid(change(10, 5, 3)), laid(nothing(11, 7))), 11, 5},
		{"all there", 3, 2, 0, []api.Entry{four, five, six, seven, eight}, true, 8, nil, 8, 5},
		{"some there, not the last ones", 4, 2, 0, []api.Entry{five, six}, true, 6, nil, 8, 5},
		{"there, and one more", 6, 3, 0, []api.Entry{seven, eight, entry(9, 5)}, true, 9, records(laid(entry(9, 5))), 9, 5},
		{"there but for what they have", 6, 3, 0, []api.Entry{nothing(7, 5), eight}, true, 8, nil, 8, 5},
		{"from below Base on", 1, 9, 0, []api.Entry{entry(2, 9), entry(3, 9), four, five}, true, 5, nil, 8, 5},
		{"up to Base", 1, 9, 9, []api.Entry{entry(2, 9), entry(3, 9)}, true, 3, nil, 8, 5},
		{"up to below Base", 0, 9, 9, []api.Entry{entry(1, 9), entry(2, 9)}, true, 2, nil, 8, 5},
		{"from below Base to above Last", 2, 9, 0, []api.Entry{entry(3, 9), four, five, six, seven, eight, entry(9, 5)}, true, 9, records(laid(entry(9, 5))), 9, 5},
		{"another one behind commit", 5, 3, 0, []api.Entry{entry(6, 4)}, true, 6, records(cut(6), laid(entry(6, 4))), 6, 5},
		{"another one, and more", 4, 2, 0, []api.Entry{five, entry(6, 4), entry(7, 5), entry(8, 5)}, true, 8, records(cut(6), laid(entry(6, 4)), laid(entry(7, 5)), laid(entry(8, 5))), 8, 5},
		{"another one at Last", 7, 5, 0, []api.Entry{entry(8, 4)}, true, 8, records(cut(8), laid(entry(8, 4))), 8, 5},
		{"another one at commit", 4, 2, 9, []api.Entry{entry(5, 4), entry(6, 4)}, false, -1, nil, 8, 5},
		{"another one below commit", 3, 2, 9, []api.Entry{entry(4, 3), five, six}, false, -1, nil, 8, 5},
		{"another one at commit, from below Base on", 2, 2, 9, []api.Entry{entry(3, 9), four, entry(5, 2)}, false, -1, nil, 8, 5},
	})
}

// P17.3, MsAppend: entries are gone through as long as their numbers follow.
func TestAppendFollow(t *testing.T) {
	isAppended(t, []appended{
		{"the first one does not follow", 8, 5, 9, []api.Entry{entry(10, 5)}, true, 8, nil, 8, 8},
		{"the first one is prev itself", 8, 5, 9, []api.Entry{entry(8, 5), entry(9, 5)}, true, 8, nil, 8, 8},
		{"the second one does not", 8, 5, 9, []api.Entry{entry(9, 5), entry(11, 5)}, true, 9, records(laid(entry(9, 5))), 9, 9},
		{"twice the same", 8, 5, 9, []api.Entry{entry(9, 5), entry(9, 5), entry(10, 5)}, true, 9, records(laid(entry(9, 5))), 9, 9},
		{"a later one does not, of those that are there", 5, 3, 9, []api.Entry{entry(6, 3), entry(8, 5), entry(9, 5)}, true, 6, nil, 8, 6},
		{"one behind another one does not", 5, 3, 9, []api.Entry{entry(6, 4), entry(7, 4), entry(9, 5)}, true, 7, records(cut(6), laid(entry(6, 4)), laid(entry(7, 4))), 7, 7},
		{"below Base", 0, 3, 9, []api.Entry{entry(1, 3), entry(4, 9), entry(5, 9)}, true, 1, nil, 8, 5},
	})
}

// P17.3, MsAppend: commit is at most what was gone through, and never falls.
func TestAppendCommit(t *testing.T) {
	six, seven, eight := entry(6, 3), entry(7, 5), entry(8, 5)
	isAppended(t, []appended{
		{"below", 8, 5, 4, nil, true, 8, nil, 8, 5},
		{"the same", 8, 5, 5, nil, true, 8, nil, 8, 5},
		{"one more", 8, 5, 6, nil, true, 8, nil, 8, 6},
		{"at Last", 8, 5, 8, nil, true, 8, nil, 8, 8},
		{"above Last", 8, 5, 9, nil, true, 8, nil, 8, 8},
		{"no further than prev", 6, 3, 8, nil, true, 6, nil, 8, 6},
		{"no further than its entries", 5, 3, 8, []api.Entry{six, seven}, true, 7, nil, 8, 7},
		{"with entries, not so far", 5, 3, 6, []api.Entry{six, seven}, true, 7, nil, 8, 6},
		{"with all", 5, 3, top, []api.Entry{six, seven, eight, entry(9, 5)}, true, 9, records(laid(entry(9, 5))), 9, 9},
		{"not where it ends below", 4, 2, 9, nil, true, 4, nil, 8, 5},
	})
}

// P17.3, MsAppend: the members are those of the log as it is, committed or not.
func TestAppendConf(t *testing.T) {
	n := begin(t, 1, saved(5, 7, 1))
	n.Take(appends(0, 1, 5, 1, 1, 0, 1, change(2, 5, 15), change(3, 5, 13)))
	if n.Conf() != 13 || n.View().Conf != 13 {
		t.Errorf("conf %d, %+v", n.Conf(), n.View())
	}
	n.Take(appends(2, 1, 6, 2, 5, 0, 1, entry(3, 6)))
	if n.Conf() != 15 {
		t.Errorf("behind a cut: conf %d", n.Conf())
	}
	n.Take(appends(2, 1, 6, 1, 1, 0, 1, entry(2, 6)))
	if n.Conf() != 7 {
		t.Errorf("behind a cut: conf %d", n.Conf())
	}
}

func base(index, term, conf int, data string) api.Record {
	return api.Record{Kind: api.RcBase, Index: index, Term: term, Conf: conf, Snap: []byte(data)}
}

// P17.3, MsSnap: at most at commit it has all that already.
func TestSnapOld(t *testing.T) {
	for _, index := range []int{0, 1, 3, 4, 5} {
		n := begin(t, 1, behind(3, 2, 5, 7, 2, 3, 3, 5, 5))
		n.Take(appends(0, 1, 5, 5, 3, 5, 1))
		was := n.View()
		gives(t, "old", n.Take(snaps(0, 1, 5, index, 9, 4, 3, "new")), send(reply(1, 0, 5, 5, 4, true)))
		stands(t, "old", n, was)
		if string(n.Snap()) != "snap" {
			t.Errorf("the snapshot at %d: %q", index, n.Snap())
		}
	}
}

// P17.3, MsSnap: with the entry there, what is behind it stays.
func TestSnapCompact(t *testing.T) {
	s := behind(3, 2, 5, 7, 2, 3)
	s.Entries = append(s.Entries, change(6, 3, 15), entry(7, 5), change(8, 5, 31))
	for index, term := range map[int]int{6: 3, 7: 5} {
		n := begin(t, 1, s)
		n.Take(appends(0, 1, 5, 5, 3, 5, 1))
		gives(t, "the entry is there", n.Take(snaps(0, 1, 5, index, term, 4, 15, "new")), load(records(base(index, term, 15, "new")), reply(1, 0, 5, index, 4, true)))
		stands(t, "the entry is there", n, api.RaftView{Term: 5, Leader: 1, Commit: index, Base: index, Last: 8, LastTerm: 5, Conf: 31})
		if string(n.Snap()) != "new" {
			t.Errorf("the snapshot: %q", n.Snap())
		}
	}
	n := begin(t, 1, s)
	gives(t, "at Last", n.Take(snaps(0, 1, 5, 8, 5, 4, 31, "")), load(records(base(8, 5, 31, "")), reply(1, 0, 5, 8, 4, true)))
	stands(t, "at Last", n, api.RaftView{Term: 5, Leader: 1, Commit: 8, Base: 8, Last: 8, LastTerm: 5, Conf: 31})
}

// P17.3, MsSnap: without the entry all of the log goes.
func TestSnapReset(t *testing.T) {
	for _, x := range []struct {
		index, term int
		cut         bool
	}{{6, 2, true}, {6, 4, true}, {6, 5, true}, {7, 3, true}, {8, 3, false}, {8, 6, false}, {9, 5, false}, {top, 0, false}} {
		n := begin(t, 1, behind(3, 2, 5, 7, 2, 3, 3, 5, 5))
		n.Take(appends(0, 1, 5, 5, 3, 5, 1))
		want := records(base(x.index, x.term, 29, "new"))
		if x.cut {
			want = append(want, cut(x.index+1))
		}
		gives(t, "another entry", n.Take(snaps(0, 1, 5, x.index, x.term, 4, 29, "new")), load(want, reply(1, 0, 5, x.index, 4, true)))
		stands(t, "another entry", n, api.RaftView{Term: 5, Leader: 1, Commit: x.index, Base: x.index, Last: x.index, LastTerm: x.term, Conf: 29})
		if string(n.Snap()) != "new" || n.Committed(x.index+1) != nil {
			t.Errorf("the snapshot: %q", n.Snap())
		}
	}
	n := begin(t, 5, api.Saved{})
	data := string(make([]byte, 1<<17))
	gives(t, "a new node", n.Take(snaps(0, 5, 2, 40, 2, 4, 127, data)), load(records(hard(2, 0), base(40, 2, 127, data)), reply(5, 0, 2, 40, 4, true)))
	gives(t, "its entries", n.Take(appends(0, 5, 2, 40, 2, 41, 5, entry(41, 2))), both(records(laid(entry(41, 2))), reply(5, 0, 2, 41, 5, true)))
	if l := n.Committed(41); len(l) != 1 || !record.SameEntry(l[0], entry(41, 2)) || n.Conf() != 127 {
		t.Errorf("behind the snapshot: %+v, conf %d", l, n.Conf())
	}
}

// P17.3, MsReply: a term above is followed in each role; what it says to who
// does not lead, or of another term, is nothing.
func TestReplyTerm(t *testing.T) {
	for role := range 4 {
		for _, ok := range []bool{false, true} {
			n := inRoles(t)[role]
			n.Synced(3)
			was := n.View()
			gives(t, "below", n.Take(reply(0, 1, 5, 3, 1, ok)), raft.Out{})
			if role != api.Leader {
				gives(t, "the same", n.Take(reply(0, 1, 6, 2, 1, ok)), raft.Out{})
			}
			stands(t, "behind MsReply", n, was)
			gives(t, "above", n.Take(reply(0, 1, 7, 2, 1, ok)), write(hard(7, 0)))
			stands(t, "it follows", n, api.RaftView{Term: 7, Last: was.Last, LastTerm: was.LastTerm, Conf: 7})
		}
	}
}

// P17.3, MsReply: who has less gets what is next, who has all gets nothing,
// and who has more than is there is not believed.
func TestReplyYes(t *testing.T) {
	n := leader(t, 1, behind(3, 2, 5, 31, 2, 3)) // 4, 5, and 6 of its own
	six := nothing(6, 6)
	gives(t, "more than Last", n.Take(reply(0, 1, 6, 7, 1, true)), raft.Out{})
	gives(t, "more than Last, no", n.Take(reply(0, 1, 6, 7, 1, false)), raft.Out{})
	gives(t, "less", n.Take(reply(0, 1, 6, 4, 1, true)), send(appends(1, 0, 6, 5, 3, 3, 1, six)))
	gives(t, "all", n.Take(reply(0, 1, 6, 6, 1, true)), raft.Out{})
	gives(t, "less, late", n.Take(reply(0, 1, 6, 4, 1, true)), raft.Out{})
	gives(t, "no member", n.Take(reply(6, 1, 6, 5, 1, true)), send(appends(1, 6, 6, 5, 3, 3, 1, six)))
	gives(t, "proposed", told(n.Propose(api.EnCommand, []byte("x"))), both(records(laid(api.Entry{Index: 7, Term: 6, Kind: 1, Data: []byte("x")})),
		appends(1, 0, 6, 6, 6, 3, 2, api.Entry{Index: 7, Term: 6, Kind: 1, Data: []byte("x")}),
		appends(1, 2, 6, 5, 3, 3, 2, six, api.Entry{Index: 7, Term: 6, Kind: 1, Data: []byte("x")}),
		appends(1, 3, 6, 5, 3, 3, 2, six, api.Entry{Index: 7, Term: 6, Kind: 1, Data: []byte("x")}),
		appends(1, 4, 6, 5, 3, 3, 2, six, api.Entry{Index: 7, Term: 6, Kind: 1, Data: []byte("x")})))
	gives(t, "what was at Last", n.Take(reply(0, 1, 6, 6, 1, true)), send(appends(1, 0, 6, 6, 6, 3, 2, api.Entry{Index: 7, Term: 6, Kind: 1, Data: []byte("x")})))
}

// told is what Propose told.
func told(_, _ int, _ api.Errno, out raft.Out) raft.Out { return out }

// P17.3, MsReply: of a yes match and commit follow; of entries of its own term
// alone, and only of what is sure at home.
func TestReplyCommits(t *testing.T) {
	n := leader(t, 1, behind(3, 2, 5, 31, 2, 3)) // 4, 5, and 6 of its own
	n.Take(reply(0, 1, 6, 6, 1, true))
	n.Take(reply(2, 1, 6, 5, 1, true))
	upto(t, "not sure at home", n, 3)
	n.Synced(6)
	upto(t, "an entry of an earlier term", n, 3)
	n.Take(reply(2, 1, 6, 4, 1, true)) // late
	n.Take(reply(3, 1, 6, 5, 1, false))
	n.Take(reply(6, 1, 6, 6, 1, true)) // no member
	upto(t, "too few", n, 3)
	n.Take(reply(0, 1, 6, 4, 1, true)) // late
	n.Take(reply(2, 1, 6, 6, 1, true))
	upto(t, "enough", n, 6)
	n.Take(reply(4, 1, 6, 6, 1, true))
	n.Take(reply(4, 1, 6, 0, 1, true))
	upto(t, "more, and less", n, 6)
	if l := n.Committed(4); len(l) != 3 || !record.SameEntry(l[2], nothing(6, 6)) {
		t.Errorf("committed: %+v", l)
	}
	// Without its own sync others may be enough.
	n.Propose(api.EnCommand, nil)
	n.Take(reply(0, 1, 6, 7, 1, true))
	n.Take(reply(2, 1, 6, 7, 1, true))
	upto(t, "two of five", n, 6)
	n.Take(reply(3, 1, 6, 7, 1, true))
	upto(t, "three of five", n, 7)
}

// upto looks whether the node has committed up to there.
func upto(t *testing.T, what string, n *node, commit int) {
	t.Helper()
	if v := n.View(); v.Commit != commit {
		t.Errorf("%s: %+v, not %d", what, v, commit)
	}
}

// P17.3, MsReply: of a no it sends again, further back, never behind what is
// known; when that is no longer in the log, the snapshot.
func TestReplyNo(t *testing.T) {
	n := leader(t, 1, behind(3, 2, 5, 7, 2, 3, 3, 5, 5)) // 4 to 8, and 9 of its own
	four, five, six, seven, eight, nine := entry(4, 2), entry(5, 3), entry(6, 3), entry(7, 5), entry(8, 5), nothing(9, 6)
	gives(t, "at the end: one further back", n.Take(reply(0, 1, 6, 8, 1, false)), send(appends(1, 0, 6, 7, 5, 3, 1, eight, nine)))
	gives(t, "one more", n.Take(reply(0, 1, 6, 9, 1, false)), send(appends(1, 0, 6, 6, 3, 3, 1, seven, eight, nine)))
	gives(t, "to what it says", n.Take(reply(0, 1, 6, 4, 1, false)), send(appends(1, 0, 6, 4, 2, 3, 1, five, six, seven, eight, nine)))
	gives(t, "a late yes", n.Take(reply(0, 1, 6, 3, 1, true)), send(appends(1, 0, 6, 4, 2, 3, 1, five, six, seven, eight, nine)))
	gives(t, "not behind that", n.Take(reply(0, 1, 6, 0, 1, false)), send(appends(1, 0, 6, 3, 2, 3, 1, four, five, six, seven, eight, nine)))
	gives(t, "not behind that", n.Take(reply(0, 1, 6, 0, 1, false)), send(appends(1, 0, 6, 3, 2, 3, 1, four, five, six, seven, eight, nine)))
	gives(t, "at Base: the snapshot", n.Take(reply(2, 1, 6, 2, 1, false)), send(snaps(1, 2, 6, 3, 2, 1, 7, "snap")))
	gives(t, "it has it", n.Take(reply(2, 1, 6, 3, 1, true)), send(appends(1, 2, 6, 3, 2, 3, 1, four, five, six, seven, eight, nine)))
	gives(t, "no member", n.Take(reply(5, 1, 6, 0, 1, false)), send(snaps(1, 5, 6, 3, 2, 1, 7, "snap")))
}

// P17.3: at most eight entries a message; the rest when it was taken.
func TestReplyBatch(t *testing.T) {
	terms := slices.Repeat([]int{1}, 20)
	n := leader(t, 0, saved(1, 7, terms...))
	out := n.Take(reply(1, 0, 2, 0, 1, false))
	var l []api.Entry
	for index := 1; index <= 20; index++ {
		l = append(l, entry(index, 1))
	}
	l = append(l, nothing(21, 2))
	gives(t, "the first one", out, send(appends(0, 1, 2, 0, 0, 0, 1, l[:8]...)))
	gives(t, "the second one", n.Take(reply(1, 0, 2, 8, 1, true)), send(appends(0, 1, 2, 8, 1, 0, 1, l[8:16]...)))
	gives(t, "the third one", n.Take(reply(1, 0, 2, 16, 1, true)), send(appends(0, 1, 2, 16, 1, 0, 1, l[16:]...)))
	gives(t, "no more", n.Take(reply(1, 0, 2, 21, 1, true)), raft.Out{})
}

// P17.3, MsReply: a leader that a committed change leaves out leads no more; it
// keeps its term.
func TestReplyLeftOut(t *testing.T) {
	n := settled(t, 1, saved(5, 7, 1)) // 1, and 2 of its own
	n.Propose(api.EnConf, rlog.ConfData(5))
	n.Synced(3)
	n.Take(reply(0, 1, 6, 3, 2, true))
	stands(t, "not committed", n, api.RaftView{Term: 6, Vote: 2, Role: api.Leader, Leader: 2, Commit: 2, Last: 3, LastTerm: 6, Conf: 5})
	n.Read()
	gives(t, "committed", n.Take(reply(2, 1, 6, 3, 2, true)), raft.Out{})
	stands(t, "left out", n, api.RaftView{Term: 6, Vote: 2, Commit: 3, Last: 3, LastTerm: 6, Conf: 5})
	n.Take(reply(2, 1, 6, 3, 9, true))
	n.Take(reply(0, 1, 6, 3, 9, true))
	if n.Reads() != nil {
		t.Error("a read was answered")
	}
	n.ticks(100)
}

// P17.3: another one is left out: the leader leads on; and one whose change is
// committed by its own sync.
func TestLeftOut(t *testing.T) {
	n := settled(t, 1, saved(5, 7, 1))
	n.Propose(api.EnConf, rlog.ConfData(3))
	n.Synced(3)
	n.Take(reply(2, 1, 6, 3, 2, true))
	upto(t, "who was left out says yes", n, 2)
	n.Take(reply(0, 1, 6, 3, 2, true))
	stands(t, "committed", n, api.RaftView{Term: 6, Vote: 2, Role: api.Leader, Leader: 2, Commit: 3, Last: 3, LastTerm: 6, Conf: 3})
	// A change behind the commit does not count yet.
	n.Propose(api.EnConf, rlog.ConfData(1))
	n.Propose(api.EnCommand, nil)
	n.is(api.Leader, 6).Take(reply(0, 1, 6, 4, 3, true))
	n.is(api.Follower, 6)
}
