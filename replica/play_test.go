package replica_test

import (
	"bytes"
	"fmt"
	"math/rand"
	"testing"

	"bailey/api"
	"bailey/command"
	"bailey/disk"
	"bailey/machine"
	"bailey/manifest"
	"bailey/msg"
	"bailey/record"
	"bailey/replica"
)

// member is a node of a play.
type member struct {
	disk  *disk.Disk
	r     *replica.Replica // nil while it is down
	waits map[int]question // of each ID that was not told yet
	was   api.RaftView
	index int // of its machine
}

// question is what somebody asked: how, and what was told by then.
type question struct {
	x     api.Command
	conf  int
	after int // up to which index everything was told when it was asked
}

// play is nodes of a lane that send each other what they tell, whatever gets
// lost; and one machine that applies all that any of them did.
type play struct {
	t       *testing.T
	rnd     *rand.Rand
	lane    int
	members []*member
	way     []api.Msg
	decided []api.Entry
	states  []api.Machine // behind each index
	replies [][]byte      // of each entry
	asked   int
	seqs    [api.MaxClients]int
	upto    int // the greatest index behind which somebody was told
	counts  map[string]int
	trace   []string
}

func newPlay(t *testing.T, seed int64, n int) *play {
	p := &play{t: t, rnd: rand.New(rand.NewSource(seed)), lane: int(seed % 5), counts: map[string]int{}}
	p.states, p.replies = []api.Machine{machine.Start(p.lane, amount)}, [][]byte{nil}
	for range n {
		p.members = append(p.members, &member{disk: blank(t, api.MaxSlot)})
	}
	for me := range n {
		p.restart(me)
	}
	return p
}

// turn takes in what a node tells.
func (p *play) turn(me int, out replica.Out) {
	m := p.members[me]
	if m.r.Stopped() {
		p.t.Fatalf("node %d stopped", me)
	}
	p.trace = append(p.trace, fmt.Sprintf("%d %+v", me, out))
	p.look(me, len(out.Msgs) > 0)
	p.applies(me, out)
	for _, a := range out.Answers {
		p.tells(me, a)
	}
	for _, x := range out.Msgs {
		if msg.Check(x) != api.OK || x.From != me {
			p.t.Fatalf("node %d sent %+v", me, x)
		}
	}
	p.way = append(p.way, out.Msgs...)
	if m.r.Waiting() != len(m.waits) {
		p.t.Fatalf("node %d: %d wait, not %d", me, m.r.Waiting(), len(m.waits))
	}
	if v := m.r.View(); v.Role != api.Leader && len(m.waits) > 0 {
		p.t.Fatalf("node %d does not lead, and %d wait: %+v", me, len(m.waits), v)
	}
}

// look looks whether nothing that a node tells can be taken by a crash.
func (p *play) look(me int, told bool) {
	m := p.members[me]
	v := m.r.View()
	if v.Term < m.was.Term || v.Commit < m.was.Commit {
		p.t.Fatalf("node %d: from %+v to %+v", me, m.was, v)
	}
	m.was = v
	if m.disk.Loose() == 0 && m.r.Held() > 0 {
		p.t.Fatalf("node %d holds %d messages", me, m.r.Held())
	}
	if !told || p.rnd.Intn(4) > 0 {
		return
	}
	d := m.disk.Copy()
	d.Crash(nil)
	r, e := replica.Open(d, p.lane, me, len(p.members), amount)
	if w := r.View(); e != api.OK || w.Term != v.Term || w.Vote != v.Vote || w.Last != v.Last || w.LastTerm != v.LastTerm || w.Conf != v.Conf {
		p.t.Fatalf("node %d told as %+v, and would be found as %+v, %d", me, v, w, e)
	}
	p.counts["found"]++
}

// applies looks whether a node applies what all do, in order, and comes to the
// same.
func (p *play) applies(me int, out replica.Out) {
	m := p.members[me]
	got := m.r.Machine()
	first := got.Index - len(out.Applied) + 1
	if first > m.index+1 {
		p.counts["loaded"]++
	} else if first != m.index+1 {
		p.t.Fatalf("node %d applied from %d on behind %d", me, first, m.index)
	}
	var sweeps []replica.Sweep
	for i, e := range out.Applied {
		if e.Index != first+i {
			p.t.Fatalf("node %d applied %+v at %d", me, e, first+i)
		}
		p.decide(me, e)
		if c := p.states[e.Index].Catalog; c.Swept != p.states[e.Index-1].Catalog.Swept {
			sweeps = append(sweeps, replica.Sweep{Time: c.Swept, Needs: manifest.Needs(c.Snaps), Live: times(c.Ledger.Holds)})
		}
	}
	if got.Index >= len(p.states) || !machine.Same(got, p.states[got.Index]) {
		p.t.Fatalf("node %d has another machine behind %d", me, got.Index)
	}
	if fmt.Sprint(out.Sweeps) != fmt.Sprint(sweeps) {
		p.t.Fatalf("node %d sweeps %+v, not %+v", me, out.Sweeps, sweeps)
	}
	p.counts["sweep"] += len(sweeps)
	m.index = got.Index
}

func times(l []api.Hold) []int {
	var out []int
	for _, h := range l {
		out = append(out, h.Time)
	}
	return out
}

// decide takes in an entry that a node applied.
func (p *play) decide(me int, e api.Entry) {
	if e.Index <= len(p.decided) {
		if !record.SameEntry(e, p.decided[e.Index-1]) {
			p.t.Fatalf("node %d applied %+v, not %+v", me, e, p.decided[e.Index-1])
		}
		return
	}
	next, a, _ := machine.Apply(p.states[e.Index-1], e)
	p.decided, p.states, p.replies = append(p.decided, e), append(p.states, next), append(p.replies, a.Bytes)
}

// tells looks whether an answer is one that the one machine would give.
func (p *play) tells(me int, a api.Answer) {
	q, waits := p.members[me].waits[a.ID]
	x, e := machine.ReadReply(a.Bytes)
	if !waits || e != api.OK || a.Client != q.x.Client || a.Seq != q.x.Seq {
		p.t.Fatalf("node %d told %+v of %+v, %d", me, a, q, e)
	}
	delete(p.members[me].waits, a.ID)
	if x.Code == api.ErrUnavailable {
		p.counts["unavailable"]++
		return
	}
	want := []byte(nil)
	switch {
	case q.conf > 0:
		want = reply(api.Result{Kind: api.OpConf, Num: q.conf})
		p.counts["changed"]++
	case command.Reads(q.x.Kind):
		want = machine.Query(p.states[a.Index], q.x)
		p.counts["read"]++
		if !a.Read || a.Index < q.after {
			p.t.Fatalf("node %d read behind %d, asked behind %d", me, a.Index, q.after)
		}
	default:
		want = p.replies[a.Index]
		p.counts["done"]++
		b, _ := command.Encode(q.x)
		if a.Read || a.Index <= q.after || !bytes.Equal(b, p.decided[a.Index-1].Data) {
			p.t.Fatalf("node %d did at %d, asked behind %d: %+v", me, a.Index, q.after, q.x)
		}
		p.upto = max(p.upto, a.Index)
	}
	if !bytes.Equal(a.Bytes, want) {
		p.t.Fatalf("node %d told %x of %+v, not %x", me, a.Bytes, q.x, want)
	}
}

// any is some command, or read.
func (p *play) any() api.Command {
	client := p.rnd.Intn(api.MaxClients)
	if p.rnd.Intn(5) > 0 || p.seqs[client] == 0 {
		p.seqs[client]++
	}
	kinds := []int{api.OpSpace, api.OpReserve, api.OpReserve, api.OpMint, api.OpSweep, api.OpTotal, api.OpList, api.OpShare}
	return api.Command{
		Client: client, Seq: p.seqs[client], Kind: kinds[p.rnd.Intn(len(kinds))], ID: 1,
		Space: "a", Name: "a", Num: 255, Bytes: 255, Time: p.rnd.Intn(9),
	}
}

// ask asks a node for something.
func (p *play) ask(me int) {
	m := p.members[me]
	p.asked++
	q := question{x: p.any(), after: p.upto}
	if p.rnd.Intn(12) == 0 {
		q.conf = p.other(me)
		e, out := m.r.Change(p.asked, q.x.Client, q.x.Seq, q.conf)
		p.waits(me, e, q, out)
		return
	}
	e, out := m.r.Submit(p.asked, q.x)
	p.waits(me, e, q, out)
}

// other is members of which one is changed; all that there are, if the leader
// of two would leave itself out: who is heard no more then has the newer log.
func (p *play) other(me int) int {
	conf := p.members[me].r.View().Conf
	next := conf ^ 1<<p.rnd.Intn(len(p.members))
	if next == conf&^(1<<me) && next&(next-1) == 0 {
		return 127
	}
	return next
}

// waits takes in what came of asking.
func (p *play) waits(me int, e api.Errno, q question, out replica.Out) {
	m := p.members[me]
	p.counts[fmt.Sprint("asked ", e)]++
	if e == api.OK {
		m.waits[p.asked] = q
	} else {
		quiet(p.t, "refused", out)
	}
	p.turn(me, out)
}

func (p *play) crash(me int) {
	m := p.members[me]
	var keeps []int
	for range p.rnd.Intn(3) {
		keeps = append(keeps, p.rnd.Intn(m.disk.Loose()+2)-1)
	}
	m.disk.Crash(keeps)
	m.r = nil
	p.counts["crash"]++
}

func (p *play) restart(me int) {
	m := p.members[me]
	r, e := replica.Open(m.disk, p.lane, me, len(p.members), amount)
	if e != api.OK {
		p.t.Fatalf("node %d: %d", me, e)
	}
	v := r.View()
	if v.Term < 0 || v.Commit != v.Base || r.Machine().Index != v.Base || !machine.Same(r.Machine(), p.states[v.Base]) {
		p.t.Fatalf("node %d comes up as %+v", me, v)
	}
	m.r, m.was, m.index, m.waits = r, v, v.Base, map[int]question{}
}

// deliver hands the message at that place to its node.
func (p *play) deliver(i int, stays bool) {
	x := p.way[i]
	if !stays {
		p.way = append(p.way[:i:i], p.way[i+1:]...)
	}
	if x.To < len(p.members) && p.members[x.To].r != nil {
		p.turn(x.To, p.members[x.To].r.Take(x))
	}
}

// leading is the node that leads the greatest term; me without one.
func (p *play) leading(me int) int {
	term := 0
	for x, m := range p.members {
		if m.r == nil {
			continue
		}
		if v := m.r.View(); v.Role == api.Leader && v.Term > term {
			me, term = x, v.Term
		}
	}
	return me
}

// step is one event, whichever comes.
func (p *play) step(rough bool) {
	me := p.rnd.Intn(len(p.members))
	m := p.members[me]
	if m.r == nil {
		if p.rnd.Intn(8) == 0 {
			p.restart(me)
		}
		return
	}
	switch n := p.rnd.Intn(200); {
	case n < 28:
		p.turn(me, m.r.Tick())
	case n < 68:
		p.turn(me, m.r.Sync())
	case n < 69:
		p.ask(me)
	case n < 88:
		if who := p.leading(me); p.members[who].r != nil {
			p.ask(who)
		}
	case n < 90 && rough:
		p.crash(me)
	case len(p.way) == 0:
	case n < 94 && rough:
		i := p.rnd.Intn(len(p.way))
		p.way = append(p.way[:i:i], p.way[i+1:]...)
	case n < 100 && rough:
		p.deliver(p.rnd.Intn(len(p.way)), true)
	case n < 115 && rough:
		p.deliver(p.rnd.Intn(len(p.way)), false)
	default:
		p.deliver(0, false)
	}
	if rough && len(p.way) > 60 {
		p.way = p.way[p.rnd.Intn(40):]
	}
}

// round lets each node tick, makes sure, and delivers all that is on its way.
func (p *play) round() {
	for me, m := range p.members {
		if m.r == nil {
			p.restart(me)
		}
		p.turn(me, p.members[me].r.Tick())
	}
	for range 4 {
		for me, m := range p.members {
			p.turn(me, m.r.Sync())
		}
		for range len(p.way) {
			p.deliver(0, false)
		}
	}
}

// goesOn looks whether somebody who asks again and again is told.
func (p *play) goesOn() {
	x := mint(0, p.seqs[0]+1)
	was := p.counts["done"]
	for range 120 {
		p.round()
		me := p.leading(0)
		if len(p.members[me].waits) == 0 {
			p.asked++
			e, out := p.members[me].r.Submit(p.asked, x)
			p.waits(me, e, question{x: x, after: p.upto}, out)
		}
		if p.counts["done"] > was {
			return
		}
	}
	for me, m := range p.members {
		p.t.Logf("node %d: %+v", me, m.r.View())
	}
	p.t.Fatal("nothing goes on")
}

// run plays so many steps.
func run(t *testing.T, seed int64, n, steps int) *play {
	p := newPlay(t, seed, n)
	for i := range steps {
		p.step(seed%4 != 0 || i%500 < 100)
	}
	p.goesOn()
	return p
}

// P27.6, P27.7, P27.2: what is told lasts; all apply the same in the same
// order, and what clients are told is what one machine would tell; whatever is
// lost, late or doubled, and whoever crashes with whatever was not sure. And
// once nothing is lost any more, it goes on.
func TestPlays(t *testing.T) {
	total := map[string]int{}
	for seed := range int64(70) {
		p := run(t, seed, 1+int(seed%7), 4000)
		total["decided"] += len(p.decided)
		for what, n := range p.counts {
			total[what] += n
		}
	}
	t.Log(total)
	for what, least := range map[string]int{"decided": 3000, "done": 2000, "read": 1000, "unavailable": 300, "changed": 100, "crash": 1000, "loaded": 30, "sweep": 300, "found": 3000, "asked 17": 100, "asked 18": 50, "asked 19": 50} {
		if total[what] < least {
			t.Errorf("%s: %d times", what, total[what])
		}
	}
}

// R4: the same calls in the same order answer the same.
func TestSamePlay(t *testing.T) {
	a, b := run(t, 6, 3, 1500), run(t, 6, 3, 1500)
	if len(a.trace) != len(b.trace) {
		t.Fatalf("%d turns, not %d", len(b.trace), len(a.trace))
	}
	for i, x := range a.trace {
		if b.trace[i] != x {
			t.Fatalf("turn %d: %s, not %s", i, b.trace[i], x)
		}
	}
}
