package raft

import (
	"bytes"

	"bailey/api"
	"bailey/ballot"
)

// takePre answers whether it would vote for who asks, and changes nothing.
func (r *Raft) takePre(m api.Msg, out *Out) {
	back := r.letter(api.MsPreReply, m.From)
	back.OK = ballot.Pre(r.term, m.Term, r.leader, r.silence(), r.fresh(m))
	if back.OK {
		back.Term = m.Term // who asks has to know to which of its terms this is said
	}
	out.Msgs = append(out.Msgs, back)
}

func (r *Raft) takePreReply(m api.Msg, out *Out) {
	switch {
	case !m.OK && m.Term > r.term:
		r.follow(m.Term, out)
	case m.OK && r.role == api.Asker && m.Term == r.term+1:
		r.votes |= 1 << m.From
		if ballot.Won(r.log.Conf(), r.votes) {
			r.stand(out)
		}
	}
}

func (r *Raft) takeVote(m api.Msg, out *Out) {
	if m.Term > r.term {
		if ballot.Deaf(r.leader, r.silence()) {
			return
		}
		r.follow(m.Term, out)
	}
	back := r.letter(api.MsVoteReply, m.From)
	back.OK = m.Term == r.term && ballot.Vote(r.vote, m.From, r.fresh(m))
	if back.OK {
		r.give(m.From, out)
	}
	out.Msgs = append(out.Msgs, back)
}

// give gives x the vote of the term, if x does not have it already.
func (r *Raft) give(x int, out *Out) {
	r.waited = 0
	if r.vote != x+1 {
		r.vote = x + 1
		r.recordHard(out)
	}
}

func (r *Raft) takeVoteReply(m api.Msg, out *Out) {
	switch {
	case m.Term > r.term:
		r.follow(m.Term, out)
	case m.OK && r.role == api.Candidate && m.Term == r.term:
		r.votes |= 1 << m.From
		if ballot.Won(r.log.Conf(), r.votes) {
			r.lead(out)
		}
	}
}

func (r *Raft) takeAppend(m api.Msg, out *Out) {
	if !r.obey(m, out) {
		return
	}
	prev := m.Index
	if prev > r.log.Last() {
		r.reply(m, false, r.log.Last(), out)
		return
	}
	if prev >= r.log.Base() && !r.hasTerm(prev, m.LogTerm) {
		r.reply(m, false, max(prev-1, 0), out)
		return
	}
	end, fits := r.lay(prev, m.Entries, out)
	if !fits {
		return
	}
	r.commit = max(r.commit, min(m.Commit, end, r.log.Last()))
	r.reply(m, true, end, out)
}

// obey tells whether m comes from the leader of its term, whom it follows then.
func (r *Raft) obey(m api.Msg, out *Out) bool {
	if m.Term < r.term {
		r.reply(m, false, 0, out)
		return false
	}
	if m.Term == r.term && r.role == api.Leader {
		return false
	}
	if m.Term > r.term || r.role != api.Follower {
		r.follow(m.Term, out)
	}
	r.leader, r.waited = m.From+1, 0
	return true
}

// lay lays the entries of l behind prev, as long as they follow one another:
// up to where they went. What it has already stays, so that late messages take
// nothing away; what is committed is never laid anew.
func (r *Raft) lay(prev int, l []api.Entry, out *Out) (int, bool) {
	end := prev
	for _, e := range l {
		if e.Index != end+1 {
			break
		}
		end = e.Index
		if end <= r.log.Base() || r.hasTerm(end, e.Term) {
			continue
		}
		if end <= r.log.Last() {
			if end <= r.commit {
				return 0, false
			}
			r.cut(end, out)
		}
		r.keep(e, out)
	}
	return end, true
}

func (r *Raft) takeReply(m api.Msg, out *Out) {
	if m.Term > r.term {
		r.follow(m.Term, out)
		return
	}
	if r.role != api.Leader || m.Term != r.term || m.Index > r.log.Last() {
		return
	}
	x := m.From
	r.heard[x] = max(r.heard[x], min(m.Round, r.round))
	if !m.OK {
		r.next[x] = ballot.Back(r.next[x], r.match[x], m.Index)
		r.send(x, out)
		return
	}
	r.match[x] = max(r.match[x], m.Index)
	r.next[x] = max(r.next[x], r.match[x]+1)
	r.advance(out)
	if r.next[x] <= r.log.Last() {
		r.send(x, out)
	}
}

func (r *Raft) takeSnap(m api.Msg, out *Out) {
	if !r.obey(m, out) {
		return
	}
	if m.Index <= r.commit {
		r.reply(m, true, r.commit, out)
		return
	}
	r.load(m, out)
	r.reply(m, true, m.Index, out)
}

// load puts the snapshot of m in the place of the log up to there; of all of
// it, if the log has another entry there, as what is behind that is wrong too.
func (r *Raft) load(m api.Msg, out *Out) {
	left := false
	if r.hasTerm(m.Index, m.LogTerm) {
		r.log.Compact(m.Index)
	} else {
		left = r.log.Last() > m.Index
		r.log.Reset(m.Index, m.LogTerm, m.Conf)
	}
	r.snap, r.commit = bytes.Clone(m.Data), m.Index
	out.Loaded = true
	out.Records = append(out.Records, api.Record{
		Kind: api.RcBase, Index: m.Index, Term: m.LogTerm,
		Conf: r.log.ConfAt(m.Index), Snap: bytes.Clone(m.Data),
	})
	if left {
		// What was written behind there would be found again.
		out.Records = append(out.Records, api.Record{Kind: api.RcCut, Index: m.Index + 1})
	}
}

// reply answers the leader's message m.
func (r *Raft) reply(m api.Msg, yes bool, index int, out *Out) {
	back := r.letter(api.MsReply, m.From)
	back.OK, back.Index, back.Round = yes, index, m.Round
	out.Msgs = append(out.Msgs, back)
}

// fresh tells whether the log of which m tells is at least as new as its own.
func (r *Raft) fresh(m api.Msg) bool {
	return ballot.Fresh(m.Index, m.LogTerm, r.log.Last(), r.log.LastTerm())
}

// silence is for how many ticks it heard of no leader; who leads hears itself.
func (r *Raft) silence() int {
	if r.role == api.Leader {
		return 0
	}
	return r.waited
}
