package replica_test

import (
	"bytes"
	"fmt"
	"math"
	"testing"

	"bailey/api"
	"bailey/command"
	"bailey/disk"
	"bailey/machine"
	"bailey/msg"
	"bailey/peers"
	"bailey/replica"
	"bailey/vault"
)

const (
	lane     = 1
	amount   = 1000
	least    = math.MinInt
	greatest = math.MaxInt
)

// blank is a disk of two slots of that room.
func blank(t *testing.T, room int) *disk.Disk {
	t.Helper()
	d, e := disk.New(2, room)
	if e != api.OK {
		t.Fatalf("disk.New: %d", e)
	}
	return d
}

// begun is what a lane of n nodes begins with.
func begun(lane, n, amount int) api.Saved {
	return api.Saved{Conf: peers.All(n), Snap: coded(machine.Start(lane, amount))}
}

// coded is the machine's bytes.
func coded(m api.Machine) []byte {
	b, e := machine.Encode(m)
	if e != api.OK {
		panic(e)
	}
	return b
}

// laid is a disk of that room that has s, for sure.
func laid(t *testing.T, room int, s api.Saved) *disk.Disk {
	t.Helper()
	d := blank(t, room)
	if _, _, e := vault.Open(d, s); e != api.OK {
		t.Fatalf("vault.Open: %d", e)
	}
	return d
}

// opened is the part of the lane that the node me of n has on d.
func opened(t *testing.T, d *disk.Disk, me, n int) *replica.Replica {
	t.Helper()
	r, e := replica.Open(d, lane, me, n, amount)
	if r == nil || e != api.OK {
		t.Fatalf("Open: %v, %d", r, e)
	}
	return r
}

// alone is a node alone that leads, and has all that it wrote for sure.
func alone(t *testing.T) (*disk.Disk, *replica.Replica) {
	t.Helper()
	d := blank(t, api.MaxSlot)
	r := opened(t, d, 0, 1)
	for range 10 {
		r.Tick()
	}
	r.Sync()
	if v := r.View(); v.Role != api.Leader || v.Commit != 1 {
		t.Fatalf("it does not lead: %+v", v)
	}
	return d, r
}

// elected makes r, which is the node 0 of n, lead: the nodes from 1 on that are
// asked for say yes.
func elected(t *testing.T, r *replica.Replica, n int) {
	t.Helper()
	for range 10 {
		r.Tick()
	}
	term := r.View().Term + 1
	for x := 1; x <= n/2; x++ {
		r.Take(api.Msg{Kind: api.MsPreReply, From: x, Term: term, OK: true})
	}
	r.Sync()
	for x := 1; x <= n/2; x++ {
		r.Take(api.Msg{Kind: api.MsVoteReply, From: x, Term: term, OK: true})
	}
	r.Sync()
	agree(r, n, 1)
	if v := r.View(); v.Role != api.Leader || v.Commit != v.Last {
		t.Fatalf("it does not lead: %+v", v)
	}
}

// agree lets enough others of n tell the leader r that they have all, as heard
// in that round.
func agree(r *replica.Replica, n, round int) replica.Out {
	v := r.View()
	var out replica.Out
	for x := 1; x <= n/2; x++ {
		o := r.Take(api.Msg{Kind: api.MsReply, From: x, Term: v.Term, Index: v.Last, Round: round, OK: true})
		out.Msgs = append(out.Msgs, o.Msgs...)
		out.Answers = append(out.Answers, o.Answers...)
		out.Applied = append(out.Applied, o.Applied...)
		out.Sweeps = append(out.Sweeps, o.Sweeps...)
	}
	return out
}

// leader is the node 0 of n, which leads.
func leader(t *testing.T, n int) (*disk.Disk, *replica.Replica) {
	t.Helper()
	d := blank(t, api.MaxSlot)
	r := opened(t, d, 0, n)
	elected(t, r, n)
	return d, r
}

// mint is a command that may be done again and again.
func mint(client, seq int) api.Command {
	return api.Command{Client: client, Seq: seq, Kind: api.OpMint, ID: 1}
}

// total is a read.
func total(client, seq int) api.Command {
	return api.Command{Client: client, Seq: seq, Kind: api.OpTotal, ID: 1}
}

// entry is an entry of the command.
func entry(index, term int, x api.Command) api.Entry {
	b, e := command.Encode(x)
	if e != api.OK {
		panic(e)
	}
	return api.Entry{Index: index, Term: term, Kind: api.EnCommand, Data: b}
}

// asked submits x, which has to be let in.
func asked(t *testing.T, r *replica.Replica, id int, x api.Command) replica.Out {
	t.Helper()
	e, out := r.Submit(id, x)
	if e != api.OK {
		t.Fatalf("Submit of %+v: %d", x, e)
	}
	return out
}

// reply is a reply's bytes.
func reply(x api.Result) []byte {
	b, e := machine.Reply(x)
	if e != api.OK {
		panic(e)
	}
	return b
}

// unavailable is the reply to who can't be told.
func unavailable(leader int) []byte {
	return reply(api.Result{Code: api.ErrUnavailable, Num: leader})
}

// minted is the reply to a mint of that id.
func minted(id int) []byte { return reply(api.Result{Kind: api.OpMint, Num: id}) }

// told looks whether these answers, and no others, were told; behind which
// entry, if want says that.
func told(t *testing.T, what string, out replica.Out, want ...api.Answer) {
	t.Helper()
	if len(out.Answers) != len(want) {
		t.Errorf("%s: %d answers, not %d: %+v", what, len(out.Answers), len(want), out.Answers)
		return
	}
	for i, a := range out.Answers {
		w := want[i]
		if a.ID != w.ID || a.Client != w.Client || a.Seq != w.Seq || !bytes.Equal(a.Bytes, w.Bytes) || w.Index > 0 && (a.Index != w.Index || a.Read != w.Read) {
			t.Errorf("%s: answer %d is %+v, not %+v", what, i, a, w)
		}
	}
}

// applied looks whether the entries of these indexes were told.
func applied(t *testing.T, what string, out replica.Out, from, upto int) {
	t.Helper()
	var got, want []int
	for _, e := range out.Applied {
		got = append(got, e.Index)
	}
	for i := from; i <= upto; i++ {
		want = append(want, i)
	}
	if fmt.Sprint(got) != fmt.Sprint(want) {
		t.Errorf("%s: applied %v, not %v", what, got, want)
	}
}

// sent looks whether these messages were sent, in order.
func sent(t *testing.T, what string, out replica.Out, want ...api.Msg) {
	t.Helper()
	if !msg.SameAll(out.Msgs, want) {
		t.Errorf("%s: sent %+v, not %+v", what, out.Msgs, want)
	}
}

// quiet looks whether nothing was told.
func quiet(t *testing.T, what string, out replica.Out) {
	t.Helper()
	if len(out.Msgs)+len(out.Answers)+len(out.Applied)+len(out.Sweeps) > 0 {
		t.Errorf("%s: %+v", what, out)
	}
}

// as looks how the replica stands.
func as(t *testing.T, what string, r *replica.Replica, want api.RaftView) {
	t.Helper()
	if got := r.View(); got != want {
		t.Errorf("%s: %+v, not %+v", what, got, want)
	}
}

// has looks whether the replica's machine is m.
func has(t *testing.T, what string, r *replica.Replica, m api.Machine) {
	t.Helper()
	if got := r.Machine(); !machine.Same(got, m) {
		t.Errorf("%s: %+v, not %+v", what, got, m)
	}
}

// sameDisk looks whether both disks have the same.
func sameDisk(t *testing.T, what string, a, b *disk.Disk) {
	t.Helper()
	for slot := range a.Slots() {
		x, _ := a.Read(slot)
		y, _ := b.Read(slot)
		if !bytes.Equal(x, y) || a.Loose() != b.Loose() {
			t.Errorf("%s: the slot %d has changed", what, slot)
		}
	}
}

// P27.1: what is refused, and what comes first.
func TestOpenWrong(t *testing.T) {
	three, e := disk.New(3, api.MaxSlot)
	if e != api.OK {
		t.Fatal(e)
	}
	one, _ := disk.New(1, api.MaxSlot)
	room := api.MaxSlot
	for _, c := range []struct {
		what        string
		d           *disk.Disk
		lane, me, n int
		e           api.Errno
	}{
		{"no disk", nil, 1, 0, 3, api.ErrNil}, {"no disk, no lane", nil, -1, 9, 0, api.ErrNil},
		{"lane -1", blank(t, room), -1, 0, 3, api.ErrArg}, {"lane 5", blank(t, room), 5, 0, 3, api.ErrArg}, {"a lane far off", blank(t, room), greatest, 0, 3, api.ErrArg},
		{"n 0", blank(t, room), 1, 0, 0, api.ErrArg}, {"n 8", blank(t, room), 1, 0, 8, api.ErrArg}, {"n -1", blank(t, room), 1, -2, -1, api.ErrArg}, {"n far below", blank(t, room), 1, 0, least, api.ErrArg},
		{"me -1", blank(t, room), 1, -1, 3, api.ErrArg}, {"me n", blank(t, room), 1, 3, 3, api.ErrArg}, {"me n of one", blank(t, room), 1, 1, 1, api.ErrArg}, {"me 7", blank(t, room), 1, 7, 7, api.ErrArg}, {"me far below", blank(t, room), 1, least, 3, api.ErrArg},
		{"a disk that no call made", &disk.Disk{}, 1, 0, 3, api.ErrArg}, {"one slot", one, 1, 0, 3, api.ErrArg}, {"three slots", three, 1, 0, 3, api.ErrArg},
		{"no room", blank(t, 10), 1, 0, 3, api.ErrFull}, {"no room, and no lane", blank(t, 10), 5, 0, 3, api.ErrArg},
	} {
		was := c.d.Copy()
		if r, e := replica.Open(c.d, c.lane, c.me, c.n, amount); r != nil || e != c.e {
			t.Errorf("%s: %v, %d, not %d", c.what, r, e, c.e)
		}
		if c.d != nil {
			sameDisk(t, c.what, c.d, was)
		}
	}
}

// P27.1: an empty disk gets the beginning of a lane.
func TestOpenEmpty(t *testing.T) {
	for lane := range 5 {
		for _, n := range []int{1, 2, 3, 7} {
			for _, me := range []int{0, n - 1} {
				for _, amount := range []int{0, 10, api.MaxBytes, api.MaxBytes + 1, -1, least, greatest} {
					what := fmt.Sprint("lane ", lane, ", ", me, " of ", n, ", ", amount)
					d := blank(t, api.MaxSlot)
					r, e := replica.Open(d, lane, me, n, amount)
					if e != api.OK {
						t.Fatalf("%s: %d", what, e)
					}
					as(t, what, r, api.RaftView{Conf: 1<<n - 1})
					has(t, what, r, machine.Start(lane, amount))
					if r.Waiting() != 0 || r.Held() != 0 || r.Stopped() {
						t.Errorf("%s: waiting %d, held %d, stopped %v", what, r.Waiting(), r.Held(), r.Stopped())
					}
					sameDisk(t, what, d, laid(t, api.MaxSlot, begun(lane, n, amount)))
				}
			}
		}
	}
}

// grown is what a node saved of the lane behind some entries.
func grown(lane int) api.Saved {
	m := machine.Start(lane, 77)
	for i := 1; i <= 3; i++ {
		m, _, _ = machine.Apply(m, entry(i, 2, mint(i, 5)))
	}
	return api.Saved{
		Term: 4, Vote: 3, Base: 3, BaseTerm: 2, Conf: 7, Snap: coded(m),
		Entries: []api.Entry{entry(4, 2, mint(1, 6)), {Index: 5, Term: 4, Kind: api.EnConf, Data: []byte{15}}},
	}
}

// P27.1: what a disk has is gone on with, whatever n and amount say then.
func TestOpenFound(t *testing.T) {
	for _, lane := range []int{0, 4} {
		s := grown(lane)
		m, _ := machine.Decode(s.Snap)
		d := laid(t, api.MaxSlot, s)
		was := d.Copy()
		r, e := replica.Open(d, lane, 2, 5, 10)
		if e != api.OK {
			t.Fatal(e)
		}
		as(t, "found", r, api.RaftView{Term: 4, Vote: 3, Commit: 3, Base: 3, Last: 5, LastTerm: 4, Conf: 15})
		has(t, "found", r, m)
		if r.Waiting() != 0 || r.Held() != 0 || r.Stopped() {
			t.Errorf("waiting %d, held %d, stopped %v", r.Waiting(), r.Held(), r.Stopped())
		}
		sameDisk(t, "found", d, was)
	}
}

// P27.1: a snapshot that is no machine of the lane behind the base.
func TestOpenNoMachine(t *testing.T) {
	m := machine.Start(lane, amount)
	other := m
	other.Lane = 2
	ahead := m
	ahead.Index = 4
	behind := m
	behind.Index = 2
	just := m
	just.Index = 3
	for _, c := range []struct {
		what string
		snap []byte
		e    api.Errno
	}{
		{"no bytes", nil, api.ErrLog}, {"no machine", []byte("snap"), api.ErrLog}, {"one byte more", append(coded(just), 0), api.ErrLog}, {"one byte less", coded(just)[:len(coded(just))-1], api.ErrLog},
		{"another lane", coded(other), api.ErrLog}, {"Index above Base", coded(ahead), api.ErrLog}, {"Index below Base", coded(behind), api.ErrLog}, {"Index 0", coded(m), api.ErrLog}, {"the machine", coded(just), api.OK},
	} {
		d := laid(t, api.MaxSlot, api.Saved{Term: 2, Base: 3, BaseTerm: 1, Conf: 7, Snap: c.snap})
		was := d.Copy()
		r, e := replica.Open(d, lane, 0, 3, amount)
		if e != c.e || (r != nil) != (e == api.OK) {
			t.Errorf("%s: %v, %d, not %d", c.what, r, e, c.e)
		}
		sameDisk(t, c.what, d, was)
	}
	d := laid(t, api.MaxSlot, begun(2, 3, amount))
	if r, e := replica.Open(d, lane, 0, 3, amount); r != nil || e != api.ErrLog {
		t.Errorf("the beginning of another lane: %v, %d", r, e)
	}
}

// P27.1: the reply to who can't be told.
func TestUnavailable(t *testing.T) {
	for _, c := range []struct{ leader, want int }{{-1, 0}, {0, 0}, {1, 1}, {7, 7}, {api.MaxBytes, api.MaxBytes}, {api.MaxBytes + 1, api.MaxBytes}, {least, 0}, {greatest, api.MaxBytes}} {
		b := replica.Unavailable(c.leader)
		if x, e := machine.ReadReply(b); e != api.OK || !machine.SameReply(x, api.Result{Code: api.ErrUnavailable, Num: c.want}) {
			t.Errorf("%d: %+v, %d", c.leader, x, e)
		}
		clear(b)
		if !bytes.Equal(replica.Unavailable(c.leader), unavailable(c.want)) {
			t.Errorf("%d: the answer is shared", c.leader)
		}
	}
}

// none looks whether a replica tells nothing, and answers that error.
func none(t *testing.T, what string, r *replica.Replica, want api.Errno) {
	t.Helper()
	as(t, what, r, api.RaftView{})
	if m := r.Machine(); !machine.Same(m, api.Machine{}) {
		t.Errorf("%s: %+v", what, m)
	}
	if r.Waiting() != 0 || r.Held() != 0 || !r.Stopped() {
		t.Errorf("%s: waiting %d, held %d, stopped %v", what, r.Waiting(), r.Held(), r.Stopped())
	}
	for range 40 {
		quiet(t, what+": Tick", r.Tick())
	}
	quiet(t, what+": Sync", r.Sync())
	quiet(t, what+": a message", r.Take(api.Msg{Kind: api.MsVote, From: 1, Term: 9, Index: 99, LogTerm: 9}))
	quiet(t, what+": no message", r.Take(api.Msg{}))
	for _, x := range []api.Command{mint(1, 1), total(1, 1), {}} {
		e, out := r.Submit(1, x)
		if e != want {
			t.Errorf("%s: Submit: %d, not %d", what, e, want)
		}
		quiet(t, what+": Submit", out)
	}
	for _, conf := range []int{0, 1, 3, 200} {
		e, out := r.Change(1, 1, 1, conf)
		if e != want {
			t.Errorf("%s: Change: %d, not %d", what, e, want)
		}
		quiet(t, what+": Change", out)
	}
}

// P27.5, R5: a replica that no call made.
func TestNoReplica(t *testing.T) {
	none(t, "nil", nil, api.ErrNil)
	none(t, "zero", &replica.Replica{}, api.ErrNil)
}

// The chapter's example: a node alone leads behind ten ticks and a Sync.
func TestExample(t *testing.T) {
	d := blank(t, api.MaxSlot)
	r := opened(t, d, 0, 1)
	for range 9 {
		quiet(t, "a tick", r.Tick())
	}
	as(t, "behind nine ticks", r, api.RaftView{Conf: 1})
	quiet(t, "the tenth tick", r.Tick())
	as(t, "behind ten ticks", r, api.RaftView{Term: 1, Vote: 1, Role: api.Leader, Leader: 1, Last: 1, LastTerm: 1, Conf: 1})
	out := r.Sync()
	applied(t, "Sync", out, 1, 1)
	told(t, "Sync", out)
	told(t, "Submit", asked(t, r, 5, mint(3, 1)))
	if r.Waiting() != 1 {
		t.Errorf("waiting %d", r.Waiting())
	}
	out = r.Sync()
	told(t, "Sync", out, api.Answer{ID: 5, Client: 3, Seq: 1, Index: 2, Bytes: minted(2)})
	applied(t, "Sync", out, 2, 2)
	if r.Waiting() != 0 {
		t.Errorf("waiting %d", r.Waiting())
	}
	quiet(t, "Sync again", r.Sync())
}

// P27.5, R3: what is answered may be changed.
func TestShared(t *testing.T) {
	_, r := alone(t)
	x := mint(3, 1)
	x.Caveats = []api.Caveat{{Kind: api.CvUntil, Num: 9}}
	asked(t, r, 5, x)
	x.Caveats[0] = api.Caveat{Kind: api.CvUntil}
	out := r.Sync()
	told(t, "Sync", out, api.Answer{ID: 5, Client: 3, Seq: 1, Index: 2, Bytes: minted(2)})
	want := r.Machine()
	clear(out.Answers[0].Bytes)
	clear(out.Applied[0].Data)
	m := r.Machine()
	clear(m.Sessions[0].Reply)
	m.Sessions[0] = api.Session{}
	has(t, "behind that", r, want)
	asked(t, r, 6, mint(3, 1))
	told(t, "asked again", r.Sync(), api.Answer{ID: 6, Client: 3, Seq: 1, Index: 3, Bytes: minted(2)})
}
