package machine_test

import (
	"bytes"
	"fmt"
	"testing"

	"bailey/api"
	"bailey/catalog"
	"bailey/machine"
)

// catalogs is what Apply of x makes of the catalog.
func catalogs(x api.Command) func(m *api.Machine) {
	return func(m *api.Machine) { m.Catalog, _ = catalog.Apply(m.Catalog, x) }
}

// full is a change of the catalog, in which there is no room for anything more.
func full(m *api.Machine) {
	c := &m.Catalog
	for _, name := range []string{"c", "d", "e", "f"} {
		c.Spaces = append(c.Spaces, api.Space{Name: name})
	}
	c.Ledger.Next, c.Revoked = num, api.Revoked{Epoch: 3, Next: num}
	for i := range 10 {
		c.Snaps = append(c.Snaps, api.Snap{Space: "b", Name: string(rune('a' + i)), Keep: 5})
	}
	for i := range 16 {
		c.Revoked.IDs = append(c.Revoked.IDs, 2+i)
	}
}

// asked is a command, and what is told of it.
type asked struct {
	what string
	x    api.Command
	r    api.Result
}

// stored are commands of a tenant's machine, and what is told of them there.
func stored() []asked {
	space := func(name string, readers, writers int) api.Command {
		return asks(api.OpSpace, func(x *api.Command) { x.Name, x.Num, x.Bytes = name, readers, writers })
	}
	reserve := func(client, n int, space string) api.Command {
		return asks(api.OpReserve, func(x *api.Command) { x.Client, x.Bytes, x.Time, x.Space = client, n, 30, space })
	}
	release := func(client, id int) api.Command {
		return asks(api.OpRelease, func(x *api.Command) { x.Client, x.Num = client, id })
	}
	commit := func(client, id int, name string, sizes ...int) api.Command {
		return asks(api.OpCommit, func(x *api.Command) {
			x.Client, x.Num, x.Space, x.Name, x.Time, x.Pieces = client, id, "a", name, 7, pieces(sizes...)
		})
	}
	remove := func(client int, space, name string) api.Command {
		return asks(api.OpDelete, func(x *api.Command) { x.Client, x.Space, x.Name = client, space, name })
	}
	quota := func(n int) api.Command { return asks(api.OpQuota, func(x *api.Command) { x.Bytes = n }) }
	l := []asked{
		{"a namespace", space("c", 255, 1), api.Result{}},
		{"a namespace without a name", space("", 1, 1), api.Result{Code: api.ErrArg}},
		{"a namespace of too many", space("c", 256, 1), api.Result{Code: api.ErrArg}},
		{"a reservation", reserve(2, 70, "a"), api.Result{Num: 9, Bytes: 70, Time: 100}},
		{"a reservation in none", reserve(2, 70, "c"), api.Result{Code: api.ErrNone}},
		{"a reservation by who reads", reserve(1, 70, "a"), api.Result{Code: api.ErrDenied}},
		{"a reservation of too much", reserve(2, 591, "a"), api.Result{Code: api.ErrQuota}},
		{"a release", release(0, 8), api.Result{}},
		{"a release of another one's", release(0, 5), api.Result{Code: api.ErrNone}},
		{"a commit", commit(0, 8, "new", 20, 25), api.Result{Bytes: 45, Time: 100}},
		{"a commit without a name", commit(0, 8, "", 20), api.Result{Code: api.ErrArg}},
		{"a commit of no reservation", commit(0, 7, "new", 20), api.Result{Code: api.ErrNone}},
		{"a commit by who writes not", commit(3, 8, "new", 20), api.Result{Code: api.ErrDenied}},
		{"a commit of too much", commit(0, 8, "new", 51), api.Result{Code: api.ErrQuota}},
		{"a commit of what is there", commit(0, 8, "old", 51), api.Result{Code: api.ErrExists}},
		{"a snapshot that goes", remove(0, "a", "old"), api.Result{Bytes: 8}},
		{"a snapshot that is held", remove(0, "a", "held"), api.Result{Code: api.ErrHeld}},
		{"a snapshot that there is not", remove(0, "a", "new"), api.Result{Code: api.ErrNone}},
		{"a snapshot of who writes not", remove(1, "a", "old"), api.Result{Code: api.ErrDenied}},
		{"a quota", quota(410), api.Result{}},
		{"a quota that is too small", quota(409), api.Result{Code: api.ErrHeld}},
		{"a sweep", asks(api.OpSweep, nil), api.Result{Time: 100}},
		{"a list", asks(api.OpList, func(x *api.Command) { x.Space = "a" }), api.Result{Code: api.ErrArg}},
		{"a restore", asks(api.OpRestore, func(x *api.Command) { x.Space, x.Name = "a", "old" }), api.Result{Code: api.ErrArg}},
		{"a total", asks(api.OpTotal, nil), api.Result{Code: api.ErrArg}},
	}
	for i := range l {
		l[i].x.Seq = 21 + i // behind the session of whoever has one here
	}
	return l
}

// ruled are commands that say which tokens hold, and what is told of them in
// whatever lane.
func ruled() []asked {
	revoke := func(id int) api.Command { return asks(api.OpRevoke, func(x *api.Command) { x.Num = id }) }
	return []asked{
		{"an id that is revoked", revoke(8), api.Result{}},
		{"its own id", revoke(1), api.Result{}},
		{"one that is revoked already", revoke(4), api.Result{}},
		{"an id that was not given out", revoke(9), api.Result{Code: api.ErrArg}},
		{"the id 0", revoke(0), api.Result{Code: api.ErrArg}},
		{"an epoch", asks(api.OpEpoch, nil), api.Result{Num: 4}},
		{"an id", asks(api.OpMint, nil), api.Result{Num: 9, Time: 3}},
	}
}

// P26.2: in a tenant's lane all is done to the catalog, and nothing to the board.
func TestTenant(t *testing.T) {
	for lane := 1; lane < 5; lane++ {
		for _, y := range append(stored(), ruled()...) {
			m := does(t, fmt.Sprintf("lane %d, %s", lane, y.what), base(lane), y.x, y.r, catalogs(y.x))
			if m.Catalog.Time != 100 {
				t.Errorf("lane %d, %s: the time is %d", lane, y.what, m.Catalog.Time)
			}
		}
		for _, n := range []int{0, 1, 2, 4, 5} {
			x := asks(api.OpShare, func(x *api.Command) { x.Num, x.Bytes = n, 5 })
			does(t, fmt.Sprintf("lane %d, a share", lane), base(lane), x, api.Result{Code: api.ErrArg}, catalogs(x))
			x.ID = 2
			does(t, fmt.Sprintf("lane %d, a share without a token", lane), base(lane), x, api.Result{Code: api.ErrArg}, catalogs(x))
		}
	}
}

// P26.2: in the system's lane which tokens hold is done to the catalog; all but
// shares is refused, and the catalog does not go on by it.
func TestSystem(t *testing.T) {
	for _, y := range ruled() {
		m := does(t, y.what, base(0), y.x, y.r, catalogs(y.x))
		if m.Catalog.Time != 100 {
			t.Errorf("%s: the time is %d", y.what, m.Catalog.Time)
		}
	}
	for _, y := range stored() {
		does(t, y.what, base(0), y.x, api.Result{Code: api.ErrArg}, nil)
		y.x.ID = 2
		does(t, y.what+", without a token", base(0), y.x, api.Result{Code: api.ErrArg}, nil)
	}
}

// P26.2: where no room is left.
func TestFull(t *testing.T) {
	many := changed(1, full)
	if !machine.Check(many) {
		t.Fatal(line(many))
	}
	for _, x := range []api.Command{
		asks(api.OpSpace, func(x *api.Command) { x.Name = "g" }),
		asks(api.OpReserve, func(x *api.Command) { x.Space, x.Bytes = "a", 999 }),
		asks(api.OpCommit, func(x *api.Command) { x.Space, x.Name, x.Num, x.Pieces = "a", "new", 8, pieces(99) }),
		asks(api.OpRevoke, func(x *api.Command) { x.Num = 20 }),
		asks(api.OpMint, nil),
	} {
		does(t, fmt.Sprintf("kind %d", x.Kind), many, x, api.Result{Code: api.ErrFull}, catalogs(x))
	}
	last := func(m *api.Machine) { m.Catalog.Revoked.Epoch, m.Catalog.Time = num, most }
	for lane := range 5 {
		x := asks(api.OpEpoch, func(x *api.Command) { x.Epoch = num })
		does(t, "the last epoch", changed(lane, last), x, api.Result{Code: api.ErrFull}, catalogs(x))
		x.Kind = api.OpMint
		m := changed(lane, func(m *api.Machine) { full(m); last(m); m.Catalog.Revoked.Next-- })
		does(t, "the last id, of the last epoch, at the last time", m, x, api.Result{Num: num - 1, Time: num}, catalogs(x))
	}
	x := asks(api.OpSweep, func(x *api.Command) { x.Epoch = num })
	does(t, "the last time", changed(1, last), x, api.Result{Time: most}, catalogs(x))
}

// denied are changes by which a command's token does not allow it.
func denied() map[string]func(x *api.Command) {
	return map[string]func(x *api.Command){
		"revoked":             func(x *api.Command) { x.ID = 4 },
		"not given out":       func(x *api.Command) { x.ID = 9 },
		"of an earlier epoch": func(x *api.Command) { x.Epoch = 2 },
		"of a later epoch":    func(x *api.Command) { x.Epoch = 4 },
		"too late":            func(x *api.Command) { x.Caveats = []api.Caveat{{Kind: api.CvUntil, Num: 98}} },
		"no actions":          func(x *api.Command) { x.Caveats = []api.Caveat{{Kind: api.CvAction}} },
		"another one's": func(x *api.Command) {
			x.Caveats = []api.Caveat{{Kind: api.CvAction, Num: 255}, {Kind: api.CvClient, Num: 1}}
		},
	}
}

// P26.2: a token that does not allow it, ahead of all else that is wrong.
func TestDenied(t *testing.T) {
	for what, change := range denied() {
		for lane := range 5 {
			for kind := 1; kind <= 10; kind++ {
				for _, space := range []string{"", "a", "zz"} {
					x := asks(kind, change)
					x.Space = space
					r, and := api.Result{Code: api.ErrDenied}, catalogs(x)
					if lane == 0 && (kind < api.OpRevoke || kind == api.OpSweep) {
						r, and = api.Result{Code: api.ErrArg}, nil
					}
					does(t, fmt.Sprintf("lane %d, kind %d, %s", lane, kind, what), base(lane), x, r, and)
				}
			}
		}
		for _, n := range []int{0, 1, 5} {
			for _, bytes := range []int{0, 5, most} {
				x := asks(api.OpShare, change)
				x.Num, x.Bytes = n, bytes
				does(t, "a share, "+what, base(0), x, api.Result{Code: api.ErrDenied}, nil)
			}
		}
	}
}

// P26.2: in the system's lane shares are done to the board, and the catalog
// does not go on by them: the time of a caveat is as it was.
func TestShare(t *testing.T) {
	share := func(lane, n int) api.Command {
		return asks(api.OpShare, func(x *api.Command) { x.Num, x.Bytes = lane, n })
	}
	two, four := api.Share{Lane: 2, Bytes: 50}, api.Share{Lane: 4, Bytes: 10}
	are := func(l ...api.Share) func(m *api.Machine) { return func(m *api.Machine) { m.Board.Shares = l } }
	does(t, "a share", base(0), share(1, 7), api.Result{Num: 67, Bytes: 7}, are(api.Share{Lane: 1, Bytes: 7}, two, four))
	does(t, "all that is left", base(0), share(3, 40), api.Result{Num: 100, Bytes: 40}, are(two, api.Share{Lane: 3, Bytes: 40}, four))
	does(t, "another one", base(0), share(2, 90), api.Result{Num: 100, Bytes: 90}, are(api.Share{Lane: 2, Bytes: 90}, four))
	does(t, "none any more", base(0), share(4, 0), api.Result{Num: 50}, are(two))
	does(t, "none, as before", base(0), share(3, 0), api.Result{Num: 60}, nil)
	for lane, n := range map[int]int{1: 41, 2: 91, 3: most, 4: 51} {
		does(t, "more than is left", base(0), share(lane, n), api.Result{Code: api.ErrQuota}, nil)
	}
	for _, lane := range []int{0, 5, 6, num} {
		for _, n := range []int{0, 5, most} {
			does(t, "no tenant's lane", base(0), share(lane, n), api.Result{Code: api.ErrArg}, nil)
		}
	}
	x := share(1, 7)
	x.Caveats = []api.Caveat{{Kind: api.CvUntil, Num: 99}, {Kind: api.CvAction, Num: api.AcAdmin}, {Kind: api.CvClient}, {Kind: api.CvBytes}}
	does(t, "at its last time", base(0), x, api.Result{Num: 67, Bytes: 7}, are(api.Share{Lane: 1, Bytes: 7}, two, four))
	whole := machine.Start(0, most)
	whole.Catalog.Revoked.Epoch = 3
	does(t, "the whole", whole, share(4, most), api.Result{Num: most, Bytes: most}, are(api.Share{Lane: 4, Bytes: most}))
}

// answers looks whether Query of x tells that, and changes nothing.
func answers(t *testing.T, what string, m api.Machine, x api.Command, want api.Result) {
	t.Helper()
	kept := copied(m)
	if b := machine.Query(m, x); !bytes.Equal(b, bytesOf(t, want)) {
		r, e := machine.ReadReply(b)
		t.Errorf("%s: told %s, %d, not %s", what, told(r), e, told(want))
	}
	if !alike(m, kept) {
		t.Errorf("%s: it was changed: %s", what, line(m))
	}
}

// P26.3: in a tenant's lane the catalog is read.
func TestQueryTenant(t *testing.T) {
	list := func(client int, space string) api.Command {
		return asks(api.OpList, func(x *api.Command) { x.Client, x.Space = client, space })
	}
	restore := func(client int, space, name string) api.Command {
		return asks(api.OpRestore, func(x *api.Command) { x.Client, x.Space, x.Name = client, space, name })
	}
	for lane := 1; lane < 5; lane++ {
		m := base(lane)
		answers(t, "a list", m, list(1, "a"), api.Result{Kind: 12, Names: []string{"held", "old"}})
		answers(t, "a list of none", m, list(2, "b"), api.Result{Kind: 12})
		answers(t, "a list of no namespace", m, list(1, "c"), api.Result{Kind: 12, Code: api.ErrNone})
		answers(t, "a list of another one's", m, list(2, "a"), api.Result{Kind: 12, Code: api.ErrDenied})
		answers(t, "a snapshot", m, restore(0, "a", "held"), api.Result{Kind: 13, Bytes: 30, Time: 5, Pieces: pieces(10, 20)})
		answers(t, "no snapshot", m, restore(0, "a", "new"), api.Result{Kind: 13, Code: api.ErrNone})
		answers(t, "a snapshot of another one's", m, restore(2, "a", "old"), api.Result{Kind: 13, Code: api.ErrDenied})
		answers(t, "a total", m, asks(api.OpTotal, nil), api.Result{Kind: 14, Num: 1000, Bytes: 410})
		for what, change := range denied() {
			for _, kind := range []int{api.OpList, api.OpRestore, api.OpTotal} {
				answers(t, what, m, asks(kind, change), api.Result{Kind: kind, Code: api.ErrDenied})
			}
		}
	}
	many := changed(1, full)
	answers(t, "ten names", many, list(2, "b"), api.Result{Kind: 12, Names: []string{"a", "b", "c", "d", "e", "f", "g", "h", "i", "j"}})
	for _, lane := range []int{-1, 5, greatest} {
		answers(t, "no lane", changed(lane, func(m *api.Machine) {}), asks(api.OpTotal, nil), api.Result{Kind: 14, Num: 1000, Bytes: 410})
	}
}

// P26.3: in the system's lane the board is read, and nothing else.
func TestQuerySystem(t *testing.T) {
	total := asks(api.OpTotal, nil)
	answers(t, "a total", base(0), total, api.Result{Kind: 14, Num: 100, Bytes: 60})
	answers(t, "of nothing", changed(0, func(m *api.Machine) { m.Board = api.Board{} }), total, api.Result{Kind: 14})
	answers(t, "of all", changed(0, func(m *api.Machine) {
		m.Board = api.Board{Capacity: most, Shares: []api.Share{{Lane: 3, Bytes: most}}}
	}), total, api.Result{Kind: 14, Num: most, Bytes: most})
	for what, change := range denied() {
		answers(t, what, base(0), asks(api.OpTotal, change), api.Result{Kind: 14, Code: api.ErrDenied})
		for _, kind := range []int{api.OpList, api.OpRestore, api.OpShare} {
			answers(t, what, base(0), asks(kind, change), api.Result{Kind: kind, Code: api.ErrArg})
		}
	}
	x := asks(api.OpTotal, func(x *api.Command) {
		x.Caveats = []api.Caveat{{Kind: api.CvUntil, Num: 99}, {Kind: api.CvAction, Num: api.AcList}}
	})
	answers(t, "at its last time", base(0), x, api.Result{Kind: 14, Num: 100, Bytes: 60})
	x.Caveats[1].Num = 255 - api.AcList
	answers(t, "no reads", base(0), x, api.Result{Kind: 14, Code: api.ErrDenied})
}

// P26.3: of other kinds ErrArg, whose Kind is held from 0 to 17.
func TestQueryKinds(t *testing.T) {
	for lane := range 5 {
		for kind := -2; kind < 21; kind++ {
			if lane == 0 && kind == 14 || lane > 0 && kind > 11 && kind < 15 {
				continue
			}
			x := asks(kind, func(x *api.Command) { x.Space, x.Name = "a", "old" })
			answers(t, fmt.Sprintf("lane %d, kind %d", lane, kind), base(lane), x, api.Result{Kind: min(max(kind, 0), 17), Code: api.ErrArg})
		}
		for kind, want := range map[int]int{least: 0, greatest: 17, num: 17, 1<<32 + 14: 17} {
			answers(t, fmt.Sprintf("lane %d, kind %d", lane, kind), base(lane), asks(kind, nil), api.Result{Kind: want, Code: api.ErrArg})
		}
		answers(t, fmt.Sprintf("lane %d, nothing", lane), base(lane), api.Command{}, api.Result{Code: api.ErrArg})
	}
}

// P26.3: a command that may not be is so ahead of its token.
func TestQueryArg(t *testing.T) {
	for lane := range 5 {
		for kind := 12; kind <= 14; kind++ {
			for i, change := range []func(x *api.Command){
				func(x *api.Command) { x.Client = 8 }, func(x *api.Command) { x.Client = -1 }, func(x *api.Command) { x.Seq = 0 }, func(x *api.Command) { x.Seq = num + 1 },
				func(x *api.Command) { x.ID = 0 }, func(x *api.Command) { x.ID = num + 1 }, func(x *api.Command) { x.Epoch = -1 }, func(x *api.Command) { x.Epoch = num + 1 },
				func(x *api.Command) { x.Caveats = make([]api.Caveat, 1) }, func(x *api.Command) { x.Caveats = make([]api.Caveat, 9) },
				func(x *api.Command) { x.Space = "A" }, func(x *api.Command) { x.Name = name17 }, func(x *api.Command) { x.Num = -1 }, func(x *api.Command) { x.Num = num + 1 },
				func(x *api.Command) { x.Bytes = -1 }, func(x *api.Command) { x.Bytes = most + 1 }, func(x *api.Command) { x.Time = least }, func(x *api.Command) { x.Time = greatest },
				func(x *api.Command) { x.Pieces = pieces(0) }, func(x *api.Command) { x.Pieces = pieces(1, 1, 1, 1, 1, 1, 1, 1, 1) },
			} {
				for _, id := range []int{1, 2} {
					x := asks(kind, func(x *api.Command) { x.ID = id })
					change(&x)
					answers(t, fmt.Sprintf("lane %d, kind %d, change %d", lane, kind, i), base(lane), x, api.Result{Kind: kind, Code: api.ErrArg})
				}
			}
		}
	}
}

// The chapter's example.
func TestExample(t *testing.T) {
	m := machine.Start(1, 10)
	x := api.Command{Seq: 1, Kind: api.OpMint, ID: 1}
	for range 2 {
		next, a, ok := machine.Apply(m, entry(t, m, x))
		if r, e := machine.ReadReply(a.Bytes); !ok || e != api.OK || r.Num != 2 || r.Code != api.OK {
			t.Error(r, e)
		}
		m = next
	}
}
