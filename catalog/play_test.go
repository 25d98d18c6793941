package catalog_test

import (
	"cmp"
	"fmt"
	"maps"
	"math/rand"
	"slices"
	"strings"
	"testing"

	"bailey/api"
	"bailey/catalog"
	"bailey/command"
)

// model is a tenant's state in maps, held against the catalog.
type model struct {
	time, swept       int
	readers, writers  map[string]int
	quota, used, next int
	holds             map[int]api.Hold
	snaps             map[string]api.Snap // by space and name, with a blank between
	epoch, nextID     int
	revoked           map[int]bool
	chain             api.Chain
}

func newModel(quota int) *model {
	return &model{
		readers: map[string]int{}, writers: map[string]int{}, quota: quota, next: 1, holds: map[int]api.Hold{},
		snaps: map[string]api.Snap{}, nextID: 2, revoked: map[int]bool{}, chain: api.Chain{Head: strings.Repeat("\x00", 32)},
	}
}

func (m *model) held() int {
	n := 0
	for _, h := range m.holds {
		n += h.Bytes
	}
	return n
}

// catalog is the state as the program has it.
func (m *model) catalog() api.Catalog {
	c := api.Catalog{Time: m.time, Swept: m.swept, Chain: m.chain}
	for _, name := range slices.Sorted(maps.Keys(m.readers)) {
		c.Spaces = append(c.Spaces, api.Space{Name: name, Readers: m.readers[name], Writers: m.writers[name]})
	}
	c.Ledger = api.Ledger{Quota: m.quota, Used: m.used, Held: m.held(), Next: m.next}
	for _, id := range slices.Sorted(maps.Keys(m.holds)) {
		c.Ledger.Holds = append(c.Ledger.Holds, m.holds[id])
	}
	c.Snaps = slices.SortedFunc(maps.Values(m.snaps), func(a, b api.Snap) int {
		return cmp.Or(strings.Compare(a.Space, b.Space), strings.Compare(a.Name, b.Name))
	})
	c.Revoked = api.Revoked{Epoch: m.epoch, Next: m.nextID, IDs: slices.Sorted(maps.Keys(m.revoked))}
	return c
}

// wants is how many bytes x stores.
func wants(x api.Command) int {
	n := 0
	for _, p := range x.Pieces {
		n += p.Size
	}
	return map[int]int{api.OpReserve: x.Bytes, api.OpCommit: n}[x.Kind]
}

// actions are what each kind does, as caveats have it.
var actions = map[int]int{1: 1, 2: 2, 3: 2, 4: 4, 5: 32, 6: 128, 7: 128, 8: 128, 9: 128, 10: 64, 11: 128, 12: 8, 13: 16, 14: 8}

func (m *model) may(x api.Command) bool {
	if x.Epoch != m.epoch || x.ID >= m.nextID || m.revoked[x.ID] {
		return false
	}
	for _, v := range x.Caveats {
		if !map[int]bool{
			api.CvAction: actions[x.Kind]&v.Num != 0, api.CvSpace: v.Name == x.Space, api.CvSnap: v.Name == x.Name,
			api.CvUntil: m.time <= v.Num, api.CvClient: x.Client == v.Num, api.CvBytes: wants(x) <= v.Num,
		}[v.Kind] {
			return false
		}
	}
	return true
}

// apply is the chapter's Apply, of the words alone.
func (m *model) apply(x api.Command) api.Result {
	m.time++
	maps.DeleteFunc(m.holds, func(_ int, h api.Hold) bool { return h.Until < m.time })
	if command.Check(x) != api.OK || x.Kind > api.OpSweep {
		return api.Result{Code: api.ErrArg}
	}
	if !m.may(x) {
		return api.Result{Code: api.ErrDenied}
	}
	if x.Kind == api.OpReserve || x.Kind == api.OpCommit || x.Kind == api.OpDelete {
		if w, ok := m.writers[x.Space]; !ok {
			return api.Result{Code: api.ErrNone}
		} else if w>>x.Client&1 == 0 {
			return api.Result{Code: api.ErrDenied}
		}
	}
	r := api.Result{}
	switch x.Kind {
	case api.OpSpace, api.OpQuota, api.OpRevoke, api.OpEpoch, api.OpMint, api.OpSweep:
		r = m.rules(x)
	default:
		r = m.stores(x)
	}
	if r.Code == api.OK {
		m.chain = linked(m.chain, x)
	}
	return r
}

func (m *model) rules(x api.Command) api.Result {
	switch x.Kind {
	case api.OpSpace:
		if _, ok := m.readers[x.Name]; x.Name == "" || x.Num > 255 || x.Bytes > 255 {
			return api.Result{Code: api.ErrArg}
		} else if !ok && len(m.readers) == 6 {
			return api.Result{Code: api.ErrFull}
		}
		m.readers[x.Name], m.writers[x.Name] = x.Num, x.Bytes
	case api.OpQuota:
		if m.used+m.held() > x.Bytes {
			return api.Result{Code: api.ErrHeld}
		}
		m.quota = x.Bytes
	case api.OpRevoke:
		if x.Num < 1 || x.Num >= m.nextID {
			return api.Result{Code: api.ErrArg}
		} else if !m.revoked[x.Num] && len(m.revoked) == 16 {
			return api.Result{Code: api.ErrFull}
		}
		m.revoked[x.Num] = true
	case api.OpEpoch:
		m.epoch, m.revoked = m.epoch+1, map[int]bool{}
		return api.Result{Num: m.epoch}
	case api.OpMint:
		m.nextID++
		return api.Result{Num: m.nextID - 1, Time: m.epoch}
	case api.OpSweep:
		m.swept = m.time
		return api.Result{Time: m.time}
	}
	return api.Result{}
}

func (m *model) stores(x api.Command) api.Result {
	h, ok := m.holds[x.Num]
	at := x.Space + " " + x.Name
	s, there := m.snaps[at]
	n := wants(x)
	refuse := func(e api.Errno) api.Result { return api.Result{Code: e} }
	switch x.Kind {
	case api.OpReserve:
		if len(m.holds) == 8 {
			return refuse(api.ErrFull)
		} else if m.used+m.held()+n > m.quota {
			return refuse(api.ErrQuota)
		}
		m.holds[m.next] = api.Hold{ID: m.next, Client: x.Client, Bytes: n, Until: min(m.time+x.Time, late), Time: m.time, Space: x.Space}
		m.next++
		return api.Result{Num: m.next - 1, Bytes: n, Time: m.time}
	case api.OpRelease:
		if !ok || h.Client != x.Client {
			return refuse(api.ErrNone)
		}
		delete(m.holds, x.Num)
		return api.Result{}
	case api.OpCommit:
		switch {
		case !ok || h.Client != x.Client || h.Space != x.Space:
			return refuse(api.ErrNone)
		case x.Name == "":
			return refuse(api.ErrArg)
		case there:
			return refuse(api.ErrExists)
		case len(m.snaps) == 12:
			return refuse(api.ErrFull)
		case n > h.Bytes:
			return refuse(api.ErrQuota)
		}
		delete(m.holds, x.Num)
		m.used += n
		m.snaps[at] = api.Snap{Space: x.Space, Name: x.Name, Bytes: n, Time: m.time, Keep: min(m.time+x.Time, late), Pieces: slices.Clone(x.Pieces)}
		return api.Result{Bytes: n, Time: m.time}
	}
	if !there {
		return refuse(api.ErrNone)
	} else if s.Keep > m.time {
		return refuse(api.ErrHeld)
	}
	delete(m.snaps, at)
	m.used -= s.Bytes
	return api.Result{Bytes: s.Bytes}
}

// query is the chapter's Query, of the words alone.
func (m *model) query(x api.Command) api.Result {
	if command.Check(x) != api.OK || x.Kind < api.OpList {
		return api.Result{Code: api.ErrArg}
	}
	if !m.may(x) {
		return api.Result{Code: api.ErrDenied}
	}
	if x.Kind == api.OpTotal {
		return api.Result{Num: m.quota, Bytes: m.used + m.held()}
	}
	if r, ok := m.readers[x.Space]; !ok {
		return api.Result{Code: api.ErrNone}
	} else if r>>x.Client&1 == 0 {
		return api.Result{Code: api.ErrDenied}
	}
	if x.Kind == api.OpRestore {
		s, ok := m.snaps[x.Space+" "+x.Name]
		if !ok {
			return api.Result{Code: api.ErrNone}
		}
		return api.Result{Bytes: s.Bytes, Time: s.Time, Pieces: s.Pieces}
	}
	r := api.Result{}
	for _, s := range m.catalog().Snaps {
		if s.Space == x.Space {
			r.Names = append(r.Names, s.Name)
		}
	}
	return r
}

// some is one of the choices, the first ones more often.
func some[T any](r *rand.Rand, l ...T) T { return l[min(r.Intn(len(l)), r.Intn(len(l)))] }

// hold is one that is there, if there is one.
func (m *model) hold(r *rand.Rand) api.Hold {
	ids := slices.Sorted(maps.Keys(m.holds))
	if len(ids) == 0 {
		return api.Hold{ID: 1 + r.Intn(3), Space: "a"}
	}
	return m.holds[ids[r.Intn(len(ids))]]
}

// What a play does more often than all else.
const (
	anything = iota
	storing
	revoking
	plays
)

// kind is any, most often one of the play.
func kind(r *rand.Rand, play int) int {
	switch {
	case play == storing && r.Intn(5) > 0:
		return some(r, api.OpReserve, api.OpCommit, api.OpSpace)
	case play == revoking && r.Intn(8) > 0:
		return some(r, api.OpMint, api.OpRevoke)
	}
	return 1 + r.Intn(14)
}

// id is any, most often one that is valid.
func (m *model) id(r *rand.Rand) int {
	n := 1 + r.Intn(m.nextID)
	for r.Intn(20) > 0 && (n == m.nextID || m.revoked[n]) {
		n = 1 + r.Intn(m.nextID)
	}
	return n
}

// asked is any command, most often one that the model may do.
func (m *model) asked(r *rand.Rand, play int) api.Command {
	x := api.Command{
		Client: some(r, 0, 1, 2, 7), Seq: 1 + r.Intn(num), Kind: kind(r, play), ID: m.id(r), Epoch: m.epoch,
		Space: some(r, "a", "b", "c", "d", "e", "f", "g", ""), Name: some(r, "a", "b", "c", "d", "e", "f", "g", name16, ""),
		Num: some(r, 255, r.Intn(256), 1+r.Intn(m.nextID), 256), Bytes: some(r, r.Intn(256), 255, r.Intn(600), 3000, most), Time: some(r, r.Intn(40), late, 200, 0),
	}
	switch x.Kind {
	case api.OpRelease, api.OpCommit:
		h := m.hold(r)
		x.Num = h.ID
		if r.Intn(6) > 0 {
			x.Client, x.Space = h.Client, h.Space
		}
		for i := range r.Intn(4) {
			x.Pieces = append(x.Pieces, api.Piece{Sum: sum(byte(i)), Size: 1 + r.Intn(1+min(h.Bytes/2, 200))})
		}
	case api.OpSpace:
		x.Bytes = min(x.Bytes, some(r, 255, 255, 256))
	case api.OpReserve:
		if r.Intn(3) > 0 {
			x.Bytes = r.Intn(90)
		}
	case api.OpRevoke:
		x.Num = some(r, 1+r.Intn(m.nextID), 1+r.Intn(m.nextID), x.Num)
	case api.OpEpoch:
		if r.Intn(4) > 0 {
			x.Kind = api.OpSweep
		}
	case api.OpQuota:
		x.Bytes = 500 + r.Intn(6000)
	case api.OpDelete, api.OpRestore:
		if l := m.catalog().Snaps; len(l) > 0 && r.Intn(5) > 0 {
			s := l[r.Intn(len(l))]
			x.Space, x.Name = s.Space, s.Name
		}
	}
	for r.Intn(4) == 0 {
		x.Caveats = append(x.Caveats, m.caveat(r, x))
	}
	if r.Intn(20) == 0 {
		spoiled(r, &x)
	}
	return x
}

// caveat is any, most often one that x fulfils.
func (m *model) caveat(r *rand.Rand, x api.Command) api.Caveat {
	more := some(r, 0, 0, 1, -1)
	return some(r,
		api.Caveat{Kind: api.CvUntil, Num: max(m.time+1+more, 0)}, api.Caveat{Kind: api.CvAction, Num: some(r, 255, actions[x.Kind], 3)},
		api.Caveat{Kind: api.CvSpace, Name: some(r, x.Space, "a")}, api.Caveat{Kind: api.CvClient, Num: some(r, x.Client, 1)},
		api.Caveat{Kind: api.CvBytes, Num: max(wants(x)+more, 0)}, api.Caveat{Kind: api.CvSnap, Name: some(r, x.Name, "b")},
	)
}

// spoiled makes x one that is refused first.
func spoiled(r *rand.Rand, x *api.Command) {
	some(r,
		func() { x.Epoch += some(r, -1, 1) }, func() { x.Seq = 0 }, func() { x.Kind = some(r, 0, 15, 16) }, func() { x.Space = "A" },
		func() { x.Client = 8 }, func() { x.Time = late + 1 }, func() { x.ID = 0 }, func() { x.Pieces = pieces(0) },
	)()
}

// agree looks whether step's command was answered, and done, as the model does.
func agree(t *testing.T, step int, m *model, x api.Command, was, c api.Catalog, got, want api.Result) {
	t.Helper()
	if told(got) != told(want) {
		t.Fatalf("step %d, %+v: told %s, not %s", step, x, told(got), told(want))
	}
	if w := m.catalog(); !alike(c, w) || !catalog.Same(c, w) {
		t.Fatalf("step %d, %+v:\n%s, not\n%s", step, x, line(c), line(w))
	}
	if !catalog.Check(c) {
		t.Fatalf("step %d, %+v: it may not be: %s", step, x, line(c))
	}
	if got.Code != api.OK && !alike(c, ticked(was)) {
		t.Fatalf("step %d, %+v: refused, and yet done: %s", step, x, line(c))
	}
}

// P24.2 to P24.7: the catalog is as the model, command by command.
func TestPlay(t *testing.T) {
	seen := map[string]int{}
	for seed := range 90 {
		r := rand.New(rand.NewSource(int64(seed)))
		m := newModel(2000)
		c := catalog.Start(2000)
		for step := range 250 {
			x, was := m.asked(r, seed%plays), c
			read, wantRead := catalog.Query(c, x), m.query(x)
			if told(read) != told(wantRead) {
				t.Fatalf("step %d, %+v: %s, not %s", step, x, told(read), told(wantRead))
			}
			var got api.Result
			c, got = catalog.Apply(c, x)
			agree(t, step, m, x, was, c, got, m.apply(x))
			seen[fmt.Sprint(x.Kind, got.Code)]++
			seen[fmt.Sprint("read ", x.Kind, read.Code)]++
		}
	}
	for _, what := range []string{
		"1 0", "1 1", "1 7", "1 11", "2 0", "2 6", "2 7", "2 11", "2 14", "3 0", "3 6", "3 11", "4 0", "4 1", "4 6", "4 7", "4 11", "4 14", "4 15",
		"5 0", "5 6", "5 11", "5 22", "6 0", "6 22", "7 0", "7 1", "7 7", "8 0", "9 0", "10 0", "11 1", "12 1", "15 1",
		"read 12 0", "read 12 6", "read 12 11", "read 13 0", "read 13 6", "read 13 11", "read 14 0", "read 14 11", "read 1 1",
	} {
		if seen[what] < 3 {
			t.Errorf("kind and code %s came %d times", what, seen[what])
		}
	}
}
