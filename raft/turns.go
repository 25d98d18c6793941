package raft

import (
	"bytes"

	"bailey/api"
	"bailey/ballot"
	"bailey/peers"
)

// follow makes it a follower of that term, who knows no leader yet.
func (r *Raft) follow(term int, out *Out) {
	if term != r.term {
		r.hard = hard{term: term}
		r.recordHard(out)
	}
	r.role, r.leader, r.reads = api.Follower, 0, nil
}

// ask asks the members whether they would vote for it, ahead of a term of its
// own: so who was cut off for long does not disturb those who were not.
func (r *Raft) ask(out *Out) {
	r.role, r.leader, r.waited = api.Asker, 0, 0
	r.votes = 1 << r.me
	if ballot.Won(r.log.Conf(), r.votes) {
		r.stand(out)
		return
	}
	r.request(api.MsPre, r.term+1, out)
}

// stand makes it a candidate of a new term.
func (r *Raft) stand(out *Out) {
	r.hard = hard{term: r.term + 1, vote: r.me + 1}
	r.recordHard(out)
	r.role, r.leader, r.waited = api.Candidate, 0, 0
	r.votes = 1 << r.me
	if ballot.Won(r.log.Conf(), r.votes) {
		r.lead(out)
		return
	}
	r.request(api.MsVote, r.term, out)
}

// request sends to each other member how new its log is.
func (r *Raft) request(kind, term int, out *Out) {
	for _, x := range r.others() {
		m := r.letter(kind, x)
		m.Term, m.Index, m.LogTerm = term, r.log.Last(), r.log.LastTerm()
		out.Msgs = append(out.Msgs, m)
	}
}

// lead makes it the leader. An entry of its own term comes first: only with
// that older ones are committed.
func (r *Raft) lead(out *Out) {
	r.role, r.leader = api.Leader, r.me+1
	r.leading = leading{}
	for x := range r.next {
		r.next[x] = r.log.Last() + 1
	}
	r.add(api.EnNothing, nil, out)
	r.call(out)
}

// call begins a round: each other member is sent to.
func (r *Raft) call(out *Out) {
	r.round++
	r.waited = 0
	for _, x := range r.others() {
		r.send(x, out)
	}
}

// send sends to x what comes next there: entries, or the snapshot if these are
// no longer in the log.
func (r *Raft) send(x int, out *Out) {
	if r.next[x] <= r.log.Base() {
		out.Msgs = append(out.Msgs, r.snapshot(x))
		return
	}
	m := r.letter(api.MsAppend, x)
	m.Index = r.next[x] - 1
	m.LogTerm, _ = r.log.Term(m.Index)
	m.Commit, m.Round = r.commit, r.round
	m.Entries = r.log.From(r.next[x], api.MaxBatch)
	out.Msgs = append(out.Msgs, m)
}

// snapshot is the message to x with all that is behind the log.
func (r *Raft) snapshot(x int) api.Msg {
	m := r.letter(api.MsSnap, x)
	m.Index = r.log.Base()
	m.LogTerm, _ = r.log.Term(m.Index)
	m.Round, m.Conf = r.round, r.log.ConfAt(m.Index)
	m.Data = bytes.Clone(r.snap)
	return m
}

// advance commits what more than half of the members have. A leader that is
// left out by what it commits has done its part.
func (r *Raft) advance(out *Out) {
	conf := r.log.Conf()
	termAt, _ := r.log.Term(peers.Match(conf, r.match))
	commit := ballot.Commit(conf, r.match, r.commit, r.term, termAt)
	if commit == r.commit {
		return
	}
	r.commit = commit
	if !peers.Has(r.log.ConfAt(commit), r.me) {
		r.follow(r.term, out)
	}
}

// add lays an entry of its own term behind the log.
func (r *Raft) add(kind int, data []byte, out *Out) api.Errno {
	return r.keep(api.Entry{Index: r.log.Last() + 1, Term: r.term, Kind: kind, Data: data}, out)
}

// keep lays e behind the log, and records it.
func (r *Raft) keep(e api.Entry, out *Out) api.Errno {
	if errno := r.log.Append(e); errno != api.OK {
		return errno
	}
	e.Data = bytes.Clone(e.Data)
	out.Records = append(out.Records, api.Record{Kind: api.RcEntry, Entry: e})
	return api.OK
}

// cut takes the entries from index on, and records it.
func (r *Raft) cut(index int, out *Out) {
	r.log.Cut(index)
	out.Records = append(out.Records, api.Record{Kind: api.RcCut, Index: index})
}

// recordHard records its term and vote.
func (r *Raft) recordHard(out *Out) {
	out.Records = append(out.Records, api.Record{Kind: api.RcHard, Term: r.term, Vote: r.vote})
}

// letter is a message to x that has nothing but its head.
func (r *Raft) letter(kind, x int) api.Msg {
	return api.Msg{Kind: kind, From: r.me, To: x, Term: r.term}
}

// others are the members beside it, rising.
func (r *Raft) others() []int { return peers.List(r.log.Conf() &^ (1 << r.me)) }

// hasTerm tells whether its entry of that index, or the base, has the term.
func (r *Raft) hasTerm(index, term int) bool {
	own, e := r.log.Term(index)
	return e == api.OK && own == term
}
