package machine_test

import (
	"bytes"
	"fmt"
	"maps"
	"math/rand"
	"slices"
	"testing"

	"bailey/api"
	"bailey/board"
	"bailey/catalog"
	"bailey/command"
	"bailey/machine"
)

// model is a lane's state with its sessions in a map, held against the machine.
type model struct {
	lane, index int
	catalog     api.Catalog
	board       api.Board
	sessions    map[int]api.Session
}

func newModel(lane, amount int) *model {
	return &model{lane: lane, catalog: catalog.Start(amount), board: board.Start(amount), sessions: map[int]api.Session{}}
}

// machine is the state as the program has it.
func (m *model) machine() api.Machine {
	out := api.Machine{Lane: m.lane, Index: m.index, Catalog: m.catalog, Board: m.board}
	for _, client := range slices.Sorted(maps.Keys(m.sessions)) {
		out.Sessions = append(out.Sessions, m.sessions[client])
	}
	return out
}

// apply is the chapter's Apply, of the words alone: the reply, and how it came
// about.
func (m *model) apply(x api.Command) ([]byte, string) {
	s, ok := m.sessions[x.Client]
	if ok && s.Seq == x.Seq {
		return s.Reply, "again"
	} else if ok && s.Seq > x.Seq {
		b, _ := machine.Reply(api.Result{Code: api.ErrOld})
		return b, "old"
	}
	r := api.Result{Code: api.ErrArg}
	if m.lane > 0 || x.Kind == api.OpRevoke || x.Kind == api.OpEpoch || x.Kind == api.OpMint {
		m.catalog, r = catalog.Apply(m.catalog, x)
	} else if x.Kind == api.OpShare {
		if r = (api.Result{Code: catalog.May(m.catalog, x)}); r.Code == api.OK {
			m.board, r = board.Apply(m.board, x)
		}
	}
	r.Kind = x.Kind
	b, _ := machine.Reply(r)
	m.sessions[x.Client] = api.Session{Client: x.Client, Seq: x.Seq, Reply: b}
	return b, fmt.Sprint(x.Kind, " ", r.Code)
}

// query is the chapter's Query, of the words alone.
func (m *model) query(x api.Command) []byte {
	r := api.Result{Code: api.ErrArg}
	if m.lane > 0 {
		r = catalog.Query(m.catalog, x)
	} else if x.Kind == api.OpTotal {
		if r = (api.Result{Code: catalog.May(m.catalog, x)}); r.Code == api.OK {
			r = board.Query(m.board, x)
		}
	}
	r.Kind = x.Kind
	b, _ := machine.Reply(r)
	return b
}

// asked is any command, most often one that the model does.
func (m *model) asked(r *rand.Rand) api.Command {
	x := api.Command{
		Client: r.Intn(8), Kind: 1 + r.Intn(14), ID: 1 + r.Intn(m.catalog.Revoked.Next), Epoch: m.catalog.Revoked.Epoch,
		Space: pick(r, "a", "b", ""), Name: pick(r, "a", "b", "c", ""), Num: pick(r, 255, r.Intn(6), 1+r.Intn(20)), Bytes: pick(r, 255, r.Intn(60), r.Intn(600)), Time: pick(r, 0, r.Intn(50)),
	}
	x.Seq = max(1, m.sessions[x.Client].Seq+pick(r, 1, 1, 1, 0, 2, -1, r.Intn(100)))
	switch {
	case x.Kind == api.OpEpoch && r.Intn(4) > 0, m.lane == 0 && r.Intn(2) == 0:
		x.Kind, x.Num, x.Bytes = api.OpShare, r.Intn(6), r.Intn(700)
	case x.Kind == api.OpCommit || x.Kind == api.OpRelease:
		if l := m.catalog.Ledger.Holds; len(l) > 0 {
			h := l[r.Intn(len(l))]
			x.Num, x.Client, x.Space = h.ID, h.Client, h.Space
			x.Seq = m.sessions[h.Client].Seq + 1
		}
		x.Pieces = pieces(slices.Repeat([]int{1 + r.Intn(20)}, r.Intn(3))...)
	case x.Kind == api.OpDelete:
		if l := m.catalog.Snaps; len(l) > 0 {
			s := l[r.Intn(len(l))]
			x.Space, x.Name = s.Space, s.Name
		}
	}
	if r.Intn(8) == 0 {
		x.Caveats = []api.Caveat{{Kind: api.CvUntil, Num: max(0, m.catalog.Time+pick(r, 1, 0, -1, 9))}}
	}
	return x
}

// pick is one of the choices.
func pick[T any](r *rand.Rand, l ...T) T { return l[r.Intn(len(l))] }

// idle is an entry without a command, or with one that is none.
func idle(r *rand.Rand) api.Entry {
	return pick(r, api.Entry{}, api.Entry{Kind: api.EnConf, Data: []byte{7}}, api.Entry{Kind: api.EnCommand}, api.Entry{Kind: api.EnCommand, Data: []byte("\x00\x01\x09")})
}

// P26.2, P26.3, P26.6 to P26.8: the machine is as the model, entry by entry,
// and so is one that was written and read ahead of each.
func TestPlay(t *testing.T) {
	seen := map[string]int{}
	for seed := range 100 {
		r := rand.New(rand.NewSource(int64(seed)))
		model, m := newModel(seed%5, 1500), machine.Start(seed%5, 1500)
		for step := range 200 {
			b, e := machine.Encode(m)
			back, f := machine.Decode(b)
			if e != api.OK || f != api.OK || !alike(back, m) || !machine.Same(back, m) || !machine.Check(m) {
				t.Fatalf("step %d: %d, %d: %s is read as %s", step, e, f, line(m), line(back))
			}
			x := model.asked(r)
			for kind := 12; kind <= 14; kind++ {
				ask := x
				ask.Kind = kind
				if got, want := machine.Query(m, ask), model.query(ask); !bytes.Equal(got, want) || !bytes.Equal(machine.Query(back, ask), want) {
					t.Fatalf("step %d, %+v: told %x, not %x", step, ask, got, want)
				}
			}
			en, want, how := idle(r), []byte(nil), "idle"
			if r.Intn(10) > 0 {
				data, _ := command.Encode(x)
				en = api.Entry{Kind: api.EnCommand, Data: data}
				want, how = model.apply(x)
			}
			model.index++
			en.Index = model.index
			next, a, ok := machine.Apply(m, en)
			again, o, _ := machine.Apply(back, en)
			if !alike(next, model.machine()) || !alike(again, next) || !bytes.Equal(a.Bytes, want) || fmt.Sprint(a) != fmt.Sprint(o) || ok != (how != "idle") {
				t.Fatalf("step %d, %+v, %s: told %x, not %x:\n%s, not\n%s", step, x, how, a.Bytes, want, line(next), line(model.machine()))
			}
			if ok && (a.Client != x.Client || a.Seq != x.Seq || a.Index != step+1) {
				t.Fatalf("step %d, %+v: %+v", step, x, a)
			}
			m = next
			seen[how]++
			seen[fmt.Sprint("lane ", model.lane, ", ", how)]++
		}
	}
	for _, what := range []string{
		"idle", "again", "old", "1 0", "1 1", "1 11", "2 0", "2 6", "2 11", "2 14", "3 0", "3 6", "4 0", "4 6", "5 0", "6 0", "6 22", "7 0", "7 1", "8 0", "9 0", "9 11", "10 0", "11 1",
		"lane 0, again", "lane 0, old", "lane 0, 11 0", "lane 0, 11 1", "lane 0, 11 11", "lane 0, 11 14", "lane 0, 2 1", "lane 0, 7 0", "lane 0, 8 0", "lane 0, 9 0", "lane 0, 14 1", "lane 4, 9 0", "lane 4, again",
	} {
		if seen[what] < 3 {
			t.Errorf("%s came %d times", what, seen[what])
		}
	}
}
