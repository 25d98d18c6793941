package replica_test

import (
	"fmt"
	"math/rand"
	"testing"

	"bailey/api"
	"bailey/machine"
	"bailey/replica"
	"bailey/rlog"
)

// wild is some message, whether or not anybody would send it.
func wild(r *rand.Rand, v api.RaftView) api.Msg {
	pick := func(l ...int) int { return l[r.Intn(len(l))] }
	index := func() int {
		return pick(0, v.Base, v.Commit, v.Last, v.Last+1, r.Intn(60), -1, api.MaxNum, api.MaxNum+1)
	}
	term := func() int { return pick(v.Term, v.Term, v.Term, v.Term+1, v.LastTerm, r.Intn(9), 0, -1) }
	m := api.Msg{Kind: r.Intn(13), From: 1 + r.Intn(2), Term: term()}
	switch m.Kind {
	case api.MsPre, api.MsVote:
		m.Index, m.LogTerm = index(), term()
	case api.MsPreReply, api.MsVoteReply:
		m.OK = r.Intn(2) == 0
	case api.MsAppend:
		m.Index, m.LogTerm, m.Commit, m.Round = index(), term(), index(), r.Intn(9)
		for i := range r.Intn(10) {
			e := entry(1, 1, mint(r.Intn(8), 1+r.Intn(99)))
			e.Index, e.Term, e.Kind = m.Index+1+i+pick(0, 0, 0, 0, 1), max(0, term()), r.Intn(3)
			if e.Kind == api.EnConf {
				e.Data = rlog.ConfData(pick(1, 3, 7, 15, 200))
			}
			m.Entries = append(m.Entries, e)
		}
	case api.MsReply:
		m.Index, m.Round, m.OK = index(), r.Intn(9), r.Intn(2) == 0
	case api.MsSnap:
		m.Index, m.LogTerm, m.Round, m.Conf = index(), term(), r.Intn(9), pick(7, 7, 3, 15, 0, 200)
		s := machine.Start(pick(lane, lane, 0, 4), amount)
		s.Index = pick(m.Index, m.Index, m.Index, m.Index+1, m.Index+40, 0, api.MaxNum)
		m.Data, _ = machine.Encode(s)
	}
	return m
}

// Whatever messages come, a replica goes on, or has stopped; and what it has
// made sure is found again, if that is a lane's at all.
func TestWild(t *testing.T) {
	seen := map[string]int{}
	for seed := range int64(300) {
		rnd := rand.New(rand.NewSource(seed))
		d := blank(t, api.MaxSlot)
		r := opened(t, d, 0, 3)
		for step := range 200 {
			switch n := rnd.Intn(20); {
			case n < 12:
				r.Take(wild(rnd, r.View()))
			case n < 15:
				r.Tick()
			case n < 17:
				r.Submit(step, mint(rnd.Intn(8), step+1))
			case n < 18:
				r.Submit(step, total(rnd.Intn(8), step+1))
			case n < 19:
				r.Change(step, 1, step+1, rnd.Intn(140)-5)
			default:
				r.Sync()
			}
			v := r.View()
			if r.Stopped() {
				seen["stopped"]++
				none(t, "stopped", r, api.ErrDown)
				break
			}
			if d.Loose() > 0 {
				continue
			}
			again, e := replica.Open(d.Copy(), lane, 0, 3, amount)
			w := again.View()
			seen[fmt.Sprint("found ", e)]++
			if e != api.ErrLog && (e != api.OK || w.Term != v.Term || w.Vote != v.Vote || w.Base != v.Base || w.Last != v.Last || w.LastTerm != v.LastTerm || w.Conf != v.Conf) {
				t.Fatalf("seed %d, step %d: %+v is found as %+v, %d", seed, step, v, w, e)
			}
		}
	}
	for what, least := range map[string]int{"stopped": 10, "found 0": 1000, "found 10": 100} {
		if seen[what] < least {
			t.Errorf("%s: %d times", what, seen[what])
		}
	}
}
