package raft_test

import (
	"crypto/sha256"
	"fmt"
	"math/rand"
	"testing"

	"bailey/api"
	"bailey/msg"
	"bailey/raft"
	"bailey/record"
	"bailey/rlog"
)

// member is a node of a play: what it wrote and sent is held till it syncs.
type member struct {
	*raft.Raft // nil while it is down
	sure       api.Saved
	wet        []api.Record // written, but not sure
	held       []api.Msg
	view       api.RaftView
	asked      map[int]int // of its reads: up to where all was committed when they came
}

// play are nodes that send each other what Out says, whatever gets lost.
type play struct {
	t       *testing.T
	rnd     *rand.Rand
	members []*member
	way     []api.Msg
	leaders map[int]int // of each term who led
	done    []api.Entry // all that was ever committed, from index 1 on
	doneIn  []int       // in which term
	sums    []string    // of all up to some index: what a snapshot says
	counts  map[string]int
	apart   int // nodes that hear of one another alone, as bits
}

func newPlay(t *testing.T, seed int64, nodes, conf int) *play {
	p := &play{t: t, rnd: rand.New(rand.NewSource(seed)), leaders: map[int]int{}, sums: []string{""}, counts: map[string]int{}}
	for me := range nodes {
		s := api.Saved{Conf: conf}
		p.members = append(p.members, &member{Raft: raft.New(me, s), sure: s, asked: map[int]int{}})
	}
	for _, m := range p.members {
		m.view = m.View()
	}
	return p
}

// turn does with what a node tells as layer 27 does.
func (p *play) turn(me int, out raft.Out) {
	m := p.members[me]
	m.wet = append(m.wet, out.Records...)
	m.held = append(m.held, out.Msgs...)
	if s := p.wrote(me, len(m.wet)); !record.SameSaved(s, m.Saved()) {
		p.t.Fatalf("node %d has\n%+v, and wrote\n%+v", me, m.Saved(), s)
	}
	p.count(out)
	p.look(me, out.Loaded)
	p.flush(me)
}

// wrote is what the node would find if so many of its records that are not sure stay.
func (p *play) wrote(me, stay int) api.Saved {
	s := p.members[me].sure
	for _, r := range p.members[me].wet[:stay] {
		next, e := record.Apply(s, r)
		if e != api.OK {
			p.t.Fatalf("node %d: %+v can't be written: %d", me, r, e)
		}
		s = next
	}
	return s
}

// flush sends what is held, if all that was written is sure.
func (p *play) flush(me int) {
	m := p.members[me]
	if len(m.wet) > 0 {
		return
	}
	for _, x := range m.held {
		if msg.Check(x) != api.OK || x.From != me {
			p.t.Fatalf("node %d sent %+v", me, x)
		}
		p.way = append(p.way, x)
	}
	m.held = nil
}

func (p *play) count(out raft.Out) {
	for _, r := range out.Records {
		if r.Kind == api.RcCut {
			p.counts["cut"]++
		}
		if r.Kind == api.RcEntry && r.Entry.Kind == api.EnConf {
			p.counts["change"]++
		}
	}
	if out.Loaded {
		p.counts["loaded"]++
	}
}

// look looks whether what has to hold does, behind each turn of a node.
func (p *play) look(me int, loaded bool) {
	m := p.members[me]
	v, was := m.View(), m.view
	if v.Term < was.Term || v.Commit < was.Commit || v.Term == was.Term && was.Vote != 0 && v.Vote != was.Vote {
		p.t.Fatalf("node %d: from %+v to %+v", me, was, v)
	}
	if v.Role == api.Leader {
		if who, led := p.leaders[v.Term]; led && who != me {
			p.t.Fatalf("the nodes %d and %d lead the term %d", who, me, v.Term)
		}
		p.leaders[v.Term] = me
	}
	if v.Leader != 0 && p.leaders[v.Term] != v.Leader-1 {
		p.t.Fatalf("node %d knows the leader %d of the term %d", me, v.Leader-1, v.Term)
	}
	from := was.Commit + 1
	if loaded {
		if v.Base > len(p.done) || string(m.Snap()) != p.sums[v.Base] {
			p.t.Fatalf("node %d loaded another snapshot: %+v", me, v)
		}
		from = v.Base + 1
	}
	for _, e := range m.Committed(from) {
		p.commits(me, e, v.Term)
	}
	if v.Role == api.Leader && was.Role != api.Leader {
		p.hasAll(me, v)
	}
	m.view = v
}

// commits looks whether an entry that a node has committed is everybody's.
func (p *play) commits(me int, e api.Entry, term int) {
	if e.Index <= len(p.done) {
		if !record.SameEntry(e, p.done[e.Index-1]) {
			p.t.Fatalf("node %d committed %+v, not %+v", me, e, p.done[e.Index-1])
		}
		return
	}
	if e.Index != len(p.done)+1 {
		p.t.Fatalf("node %d committed %+v behind %d", me, e, len(p.done))
	}
	if p.leaders[term] != me {
		p.t.Fatalf("node %d committed %+v first, and does not lead", me, e)
	}
	p.done, p.doneIn = append(p.done, e), append(p.doneIn, term)
	sum := sha256.Sum256([]byte(p.sums[e.Index-1] + fmt.Sprint(e)))
	p.sums = append(p.sums, string(sum[:]))
}

// hasAll looks whether a new leader has all that was committed in terms below.
func (p *play) hasAll(me int, v api.RaftView) {
	p.counts["leader"]++
	l := p.members[me].Saved().Entries
	for i, e := range p.done {
		if p.doneIn[i] >= v.Term || e.Index <= v.Base {
			continue
		}
		if e.Index > v.Last || !record.SameEntry(l[e.Index-v.Base-1], e) {
			p.t.Fatalf("node %d leads the term %d without %+v", me, v.Term, e)
		}
	}
}

func (p *play) sync(me int) {
	m := p.members[me]
	m.sure, m.wet = p.wrote(me, len(m.wet)), nil
	p.flush(me)
	p.turn(me, m.Synced(m.View().Last))
	p.reads(me)
}

// reads looks whether reads that are answered know all that was committed when they came.
func (p *play) reads(me int) {
	m := p.members[me]
	for _, a := range m.Reads() {
		least, waits := m.asked[a.Seq]
		if !waits || a.Index < least {
			p.t.Fatalf("node %d: the read %+v, asked for behind %d", me, a, least)
		}
		delete(m.asked, a.Seq)
		p.counts["read"]++
	}
}

// compact makes the snapshot of what a node has committed, if all is sure.
func (p *play) compact(me, least int) {
	m := p.members[me]
	v := m.View()
	if len(m.wet) > 0 || v.Commit-v.Base < least {
		return
	}
	if e := m.Compact(v.Commit, []byte(p.sums[v.Commit])); e != api.OK {
		p.t.Fatalf("node %d, %+v: %d", me, v, e)
	}
	m.sure = m.Saved()
	p.turn(me, raft.Out{})
}

func (p *play) crash(me int) {
	m := p.members[me]
	m.sure = p.wrote(me, p.rnd.Intn(len(m.wet)+1))
	m.Raft, m.wet, m.held = nil, nil, nil
	p.counts["crash"]++
}

func (p *play) restart(me int) {
	m := p.members[me]
	m.Raft, m.asked = raft.New(me, m.sure), map[int]int{}
	v := m.View()
	if v.Term < 0 || v.Commit != m.sure.Base || string(m.Snap()) != p.sums[v.Base] {
		p.t.Fatalf("node %d comes up with %+v", me, v)
	}
	m.view = v
}

// deliver hands the message at that place to its node.
func (p *play) deliver(i int, stays bool) {
	x := p.way[i]
	if !stays {
		p.way = append(p.way[:i:i], p.way[i+1:]...)
	}
	if p.apart>>x.From&1 != p.apart>>x.To&1 {
		p.counts["cut off"]++
		return
	}
	if x.To < len(p.members) && p.members[x.To].Raft != nil {
		p.turn(x.To, p.members[x.To].Take(x))
		p.reads(x.To)
	}
}

// ask lets a node propose an entry, or a change of members, or read.
func (p *play) ask(me int) {
	m := p.members[me]
	switch p.rnd.Intn(10) {
	case 0:
		conf := m.Conf() ^ 1<<p.rnd.Intn(len(p.members))
		if m.Conf()&^(1<<me) == conf && conf&(conf-1) == 0 {
			// One of two that leaves itself out, and is heard no more: it has the
			// newer log, so that the other one can't win, and it is no member, so
			// that it doesn't ask. Nothing would go on.
			return
		}
		_, _, _, out := m.Propose(api.EnConf, rlog.ConfData(conf))
		p.turn(me, out)
	case 1, 2:
		ticket, e, out := m.Read()
		if e == api.OK {
			m.asked[ticket] = len(p.done)
		}
		p.turn(me, out)
		p.reads(me)
	default:
		_, _, _, out := m.Propose(api.EnCommand, []byte(fmt.Sprint(me, p.rnd.Int())))
		p.turn(me, out)
	}
}

// someLeader is the first node from me on that leads; me without one.
func (p *play) someLeader(me int) int {
	for i := range p.members {
		x := (me + i) % len(p.members)
		if m := p.members[x]; m.Raft != nil && m.View().Role == api.Leader {
			return x
		}
	}
	return me
}

// step is one event, whichever comes.
func (p *play) step(rough bool) {
	me := p.rnd.Intn(len(p.members))
	if rough && p.rnd.Intn(300) == 0 {
		p.apart = p.rnd.Intn(1 << len(p.members))
	}
	if p.members[me].Raft == nil {
		if p.rnd.Intn(8) == 0 {
			p.restart(me)
		}
		return
	}
	switch n := p.rnd.Intn(200); {
	case n < 28:
		p.turn(me, p.members[me].Tick())
	case n < 68:
		p.sync(me)
	case n < 88:
		p.ask(p.someLeader(me))
	case n < 90:
		p.compact(me, 1)
	case n < 91 && rough:
		p.crash(me)
	case len(p.way) == 0:
	case n < 94 && rough:
		i := p.rnd.Intn(len(p.way))
		p.way = append(p.way[:i:i], p.way[i+1:]...)
	case n < 100 && rough:
		p.deliver(p.rnd.Intn(len(p.way)), true)
	case n < 115 && rough:
		p.deliver(p.rnd.Intn(len(p.way)), false)
	default:
		p.deliver(0, false)
	}
	if rough && len(p.way) > 60 {
		p.way = p.way[p.rnd.Intn(40):]
	}
}

// round lets each node tick and sync, and delivers all that is on its way.
func (p *play) round() {
	for me, m := range p.members {
		if m.Raft == nil {
			p.restart(me)
		}
		p.turn(me, m.Tick())
	}
	for range 4 {
		for me := range p.members {
			p.sync(me)
			p.compact(me, api.CompactAt)
		}
		for range len(p.way) {
			p.deliver(0, false)
		}
	}
}

// leading is who leads the greatest term; -1, if nobody does.
func (p *play) leading() int {
	who, term := -1, -1
	for me, m := range p.members {
		if v := m.View(); v.Role == api.Leader && v.Term > term {
			who, term = me, v.Term
		}
	}
	return who
}

// goesOn looks whether what is asked for is done, once nothing is lost any more.
func (p *play) goesOn() {
	p.apart = 0
	for range 120 {
		p.round()
		who := p.leading()
		if who < 0 {
			continue
		}
		index, term, e, out := p.members[who].Propose(api.EnCommand, []byte("at last"))
		p.turn(who, out)
		for range 5 {
			p.round()
		}
		if e == api.OK && index <= len(p.done) && p.done[index-1].Term == term {
			p.agree()
			return
		}
	}
	for me, m := range p.members {
		p.t.Logf("node %d: %+v", me, m.View())
	}
	p.t.Fatal("nothing goes on")
}

// agree looks whether all members come to have all that was committed, and no more.
func (p *play) agree() {
	for range 120 {
		p.round()
		if p.agreed() {
			return
		}
	}
	p.t.Fatalf("they do not agree on %d", len(p.done))
}

func (p *play) agreed() bool {
	who := p.leading()
	if who < 0 {
		return false
	}
	conf := p.members[who].Conf()
	for me, m := range p.members {
		if v := m.View(); conf&(1<<me) != 0 && (v.Commit != len(p.done) || v.Last != v.Commit) {
			return false
		}
	}
	return true
}

// P17.8, P17.7, P17.5: of each term at most one leads, what is committed is the
// same everywhere and all later leaders have it, reads know all of it; whatever
// is lost, late, doubled, and whoever crashes with whatever was not sure. And
// once nothing is lost any more, it goes on.
func TestPlays(t *testing.T) {
	total := map[string]int{}
	for seed := range int64(150) {
		nodes := 1 + int(seed%7)
		conf := 1<<(1+int(seed/7)%nodes) - 1
		p := newPlay(t, seed, nodes, conf)
		for i := range 10000 {
			p.step(seed%4 != 0 || i%500 < 100)
		}
		total["committed"] += len(p.done)
		p.goesOn()
		for what, n := range p.counts {
			total[what] += n
		}
	}
	t.Log(total)
	for what, least := range map[string]int{"committed": 20000, "leader": 900, "read": 5000, "crash": 3000, "cut": 40, "cut off": 20000, "loaded": 300, "change": 1500} {
		if total[what] < least {
			t.Errorf("%s: %d times", what, total[what])
		}
	}
}
