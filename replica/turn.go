package replica

import (
	"bailey/api"
	"bailey/machine"
	"bailey/manifest"
	"bailey/raft"
	"bailey/rlog"
)

// turned answers what comes of what Raft told.
func (r *Replica) turned(told raft.Out) Out {
	var out Out
	r.turn(told, &out)
	return out
}

// turn does what Raft told: what a crash could take is written ahead of what
// is sent, and what is committed is applied.
func (r *Replica) turn(told raft.Out, out *Out) {
	if !r.wrote(told.Records) || told.Loaded && !r.loaded() {
		r.stop()
		return
	}
	r.held = append(r.held, told.Msgs...)
	for _, e := range r.raft.Committed(r.machine.Index + 1) {
		r.apply(e, out)
	}
	r.dismiss(upto(r.machine.Index), 0, out)
	r.query(out)
	if v := r.raft.View(); v.Role != api.Leader {
		r.dismiss(waiter.writes, v.Leader, out)
		r.dismiss(waiter.reads, v.Leader, out)
	}
	if r.disk.Loose() == 0 {
		r.send(out)
	}
}

// wrote writes the records, and tells whether all of them were.
func (r *Replica) wrote(l []api.Record) bool {
	for _, x := range l {
		if r.vault.Write(x) != api.OK {
			return false
		}
	}
	return true
}

// loaded takes the machine of the snapshot that came, and tells whether it is
// one.
func (r *Replica) loaded() bool {
	m, e := machine.Decode(r.raft.Snap())
	if e != api.OK {
		return false
	}
	r.machine = m
	return true
}

// apply applies e, and answers who waits for it.
func (r *Replica) apply(e api.Entry, out *Out) {
	swept := r.machine.Catalog.Swept
	m, done, ok := machine.Apply(r.machine, e)
	r.machine = m
	out.Applied = append(out.Applied, e)
	for _, w := range r.line.leave(at(e.Index)) {
		out.Answers = append(out.Answers, outcome(w, e, done, ok))
	}
	if m.Catalog.Swept != swept {
		out.Sweeps = append(out.Sweeps, sweep(m.Catalog))
	}
}

// outcome is what w is told of e, which made done of a command. An entry of
// another term is another one than w's.
func outcome(w waiter, e api.Entry, done api.Answer, ok bool) api.Answer {
	switch {
	case e.Term != w.term:
		return w.answer(Unavailable(0))
	case e.Kind == api.EnConf:
		return w.answer(reply(api.Result{Kind: api.OpConf, Num: rlog.ConfOf(e.Data)}))
	case !ok:
		return w.answer(Unavailable(0))
	}
	a := w.answer(done.Bytes)
	a.Index = done.Index
	return a
}

// sweep is which pieces a catalog lets go.
func sweep(c api.Catalog) Sweep {
	s := Sweep{Time: c.Swept, Needs: manifest.Needs(c.Snaps)}
	for _, h := range c.Ledger.Holds {
		s.Live = append(s.Live, h.Time)
	}
	return s
}

// query answers the reads that need not wait any more.
func (r *Replica) query(out *Out) {
	for _, x := range r.raft.Reads() {
		for _, w := range r.line.leave(bearing(x.Seq)) {
			a := w.answer(machine.Query(r.machine, w.asked))
			a.Read, a.Index = true, r.machine.Index
			out.Answers = append(out.Answers, a)
		}
	}
}

// dismiss answers those who go that nobody knows what comes of what they asked
// for, and who leads.
func (r *Replica) dismiss(goes func(waiter) bool, leader int, out *Out) {
	for _, w := range r.line.leave(goes) {
		out.Answers = append(out.Answers, w.answer(Unavailable(leader)))
	}
}

// send sends what is held.
func (r *Replica) send(out *Out) {
	out.Msgs = append(out.Msgs, r.held...)
	r.held = nil
}

// compact lays a snapshot in the place of the entries that were applied, once
// they are many; or begins a slot anew that has grown too much.
func (r *Replica) compact() {
	switch {
	case r.vault.Turning():
		return
	case r.machine.Index-r.raft.View().Base >= api.CompactAt:
		b, e := machine.Encode(r.machine)
		if e == api.OK {
			r.raft.Compact(r.machine.Index, b)
		}
	case r.vault.Size() <= api.MaxSlot/2:
		return
	}
	if r.vault.Compact(r.raft.Saved()) != api.OK {
		r.stop()
	}
}

// stop lets the replica do nothing more: what it could not write it must not
// tell either.
func (r *Replica) stop() { *r = Replica{stopped: true} }
