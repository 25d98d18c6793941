package ledger_test

import (
	"math"
	"math/rand"
	"slices"
	"strings"
	"testing"

	"bailey/api"
	"bailey/ledger"
	"bailey/pack"
)

const (
	least    = math.MinInt
	greatest = math.MaxInt
	name16   = "abcdefghij_-0189"
	name17   = name16 + "z"
	much     = api.MaxBytes
	late     = api.MaxTime
)

// hold is one of the id that has so many bytes; its other fields follow from these.
func hold(id, bytes int) api.Hold {
	return api.Hold{ID: id, Client: id % 8, Bytes: bytes, Until: 10 * id, Time: id, Space: "a"}
}

// holding is a ledger of holds of so many bytes, with the ids 1, 2 and so on.
func holding(quota, used int, bytes ...int) api.Ledger {
	l := api.Ledger{Quota: quota, Used: used, Next: len(bytes) + 1}
	for i, n := range bytes {
		l.Held += n
		l.Holds = append(l.Holds, hold(i+1, n))
	}
	return l
}

// copied is l in memory of its own.
func copied(l api.Ledger) api.Ledger {
	l.Holds = slices.Clone(l.Holds)
	return l
}

// same holds a and b against each other without the package's own Same.
func same(a, b api.Ledger) bool {
	return a.Quota == b.Quota && a.Used == b.Used && a.Held == b.Held && a.Next == b.Next && slices.Equal(a.Holds, b.Holds)
}

func notNames() []string {
	return []string{"", name17, strings.Repeat("a", 300), "A", "a b", "a.b", "\x00", "ä", "\xff", "a\n"}
}

// goods are ledgers that may be, at the edges of what may be, and their bytes.
func goods() []struct {
	l api.Ledger
	b string
} {
	big, num := "\xa0\x80\x80\x80\x80\x00", "\x88\x80\x80\x80\x00" // 2^40 and 2^31
	return []struct {
		l api.Ledger
		b string
	}{
		{api.Ledger{Next: 1}, "\x00\x00\x00\x01\x00"},
		{api.Ledger{Next: 1, Holds: []api.Hold{}}, "\x00\x00\x00\x01\x00"},
		{api.Ledger{Quota: 300, Used: 2, Next: 5}, "\x82\x2c\x02\x00\x05\x00"},
		{api.Ledger{Quota: much, Used: much, Next: api.MaxNum}, big + big + "\x00" + num + "\x00"},
		{api.Ledger{Quota: much, Used: 1, Next: 2}, big + "\x01\x00\x02\x00"},
		{api.Ledger{Next: 2, Holds: []api.Hold{{ID: 1, Space: "-"}}}, "\x00\x00\x00\x02\x01\x01\x00\x00\x00\x00\x01-"},
		{
			api.Ledger{Quota: much, Held: much, Next: api.MaxNum, Holds: []api.Hold{{ID: api.MaxNum - 1, Client: 7, Bytes: much, Until: late, Time: late, Space: name16}}},
			big + "\x00" + big + num + "\x01\x87\xff\xff\xff\x7f\x07" + big + big + big + "\x10" + name16,
		},
		{
			api.Ledger{Quota: 9, Used: 3, Held: 6, Next: 10, Holds: []api.Hold{{ID: 2, Client: 1, Bytes: 6, Until: 4, Time: 5, Space: "b"}, {ID: 9, Until: 200, Space: "a"}}},
			"\x09\x03\x06\x0a\x02\x02\x01\x06\x04\x05\x01b\x09\x00\x00\x81\x48\x00\x01a",
		},
		{
			holding(36, 0, 1, 2, 3, 4, 5, 6, 7, 8),
			"\x24\x00\x24\x09\x08\x01\x01\x01\x0a\x01\x01a\x02\x02\x02\x14\x02\x01a\x03\x03\x03\x1e\x03\x01a\x04\x04\x04\x28\x04\x01a" +
				"\x05\x05\x05\x32\x05\x01a\x06\x06\x06\x3c\x06\x01a\x07\x07\x07\x46\x07\x01a\x08\x00\x08\x50\x08\x01a",
		},
		{holding(28, 0, 1, 2, 3, 4, 5, 6, 7), "\x1c\x00\x1c\x08\x07\x01\x01\x01\x0a\x01\x01a\x02\x02\x02\x14\x02\x01a\x03\x03\x03\x1e\x03\x01a\x04\x04\x04\x28\x04\x01a" +
			"\x05\x05\x05\x32\x05\x01a\x06\x06\x06\x3c\x06\x01a\x07\x07\x07\x46\x07\x01a"},
	}
}

// changed is l with one thing changed.
func changed(l api.Ledger, change func(l *api.Ledger)) api.Ledger {
	l = copied(l)
	change(&l)
	return l
}

// wrongHolds are changes of a hold of the id 2, behind which it may not be
// (whatever else the ledger has).
func wrongHolds() []func(h *api.Hold) {
	changes := []func(h *api.Hold){
		func(h *api.Hold) { h.Bytes = -1 }, func(h *api.Hold) { h.Bytes = much + 1 }, func(h *api.Hold) { h.Bytes = least }, func(h *api.Hold) { h.Bytes = greatest },
	}
	for _, n := range []int{least, -1, api.MaxClients, api.MaxClients + 1, greatest} {
		changes = append(changes, func(h *api.Hold) { h.Client = n })
	}
	for _, n := range []int{least, -1, late + 1, greatest} {
		changes = append(changes, func(h *api.Hold) { h.Until = n }, func(h *api.Hold) { h.Time = n })
	}
	for _, name := range notNames() {
		changes = append(changes, func(h *api.Hold) { h.Space = name })
	}
	return changes
}

// wrongs are ledgers of which one thing may not be.
func wrongs() []api.Ledger {
	l := []api.Ledger{
		{},
		{Next: -1}, {Next: least}, {Next: api.MaxNum + 1}, {Next: greatest},
		{Quota: -1, Next: 1}, {Quota: much + 1, Next: 1}, {Quota: greatest, Used: 3, Next: 1},
		{Quota: 5, Used: -1, Next: 1}, {Quota: much, Used: much + 1, Next: 1}, {Quota: 5, Used: 6, Next: 1},
		{Quota: 5, Held: -1, Next: 1}, {Quota: 5, Held: 1, Next: 1}, {Quota: 5, Used: greatest, Held: greatest, Next: 1}, {Used: least, Held: least, Next: 1},
		holding(36, 0, 1, 1, 1, 1, 1, 1, 1, 1, 1), // nine
		holding(much, 0, much, 1),
		holding(9, 5, 2, 3), holding(4, 0, 2, 3), // one more than the quota
	}
	base := holding(100, 10, 5, 6, 7)
	for _, change := range []func(l *api.Ledger){
		func(l *api.Ledger) { l.Held++ }, func(l *api.Ledger) { l.Held-- }, func(l *api.Ledger) { l.Held = 0 },
		func(l *api.Ledger) { l.Next = 3 }, func(l *api.Ledger) { l.Next = 2 }, func(l *api.Ledger) { l.Next = 1 }, func(l *api.Ledger) { l.Next = 0 },
		func(l *api.Ledger) { l.Holds[0].ID = 0 }, func(l *api.Ledger) { l.Holds[0].ID = -1 }, func(l *api.Ledger) { l.Holds[0].ID = least },
		func(l *api.Ledger) { l.Holds[0].ID = 2 }, func(l *api.Ledger) { l.Holds[2].ID = 2 }, func(l *api.Ledger) { l.Holds[1].ID = 1 },
		func(l *api.Ledger) { l.Holds[0], l.Holds[1] = l.Holds[1], l.Holds[0] }, func(l *api.Ledger) { l.Holds[1], l.Holds[2] = l.Holds[2], l.Holds[1] },
		func(l *api.Ledger) { l.Holds[2].ID = l.Next }, func(l *api.Ledger) { l.Holds[2].ID = l.Next + 1 }, func(l *api.Ledger) { l.Holds[2].ID = greatest },
		func(l *api.Ledger) { l.Holds[2].ID, l.Next = api.MaxNum, api.MaxNum },
		func(l *api.Ledger) { l.Holds[2].ID, l.Next = api.MaxNum+1, api.MaxNum+2 },
		func(l *api.Ledger) { l.Quota = 27 },
		func(l *api.Ledger) { l.Holds[0].Bytes, l.Holds[1].Bytes = -1, 12 },
	} {
		l = append(l, changed(base, change))
	}
	for _, change := range wrongHolds() {
		for i := range base.Holds {
			l = append(l, changed(base, func(l *api.Ledger) { change(&l.Holds[i]) }))
			l = append(l, changed(base, func(l *api.Ledger) {
				before := l.Holds[i].Bytes
				change(&l.Holds[i])
				l.Held += l.Holds[i].Bytes - before // so that Held is the sum again
			}))
		}
	}
	return l
}

// P19.1: which may be.
func TestCheck(t *testing.T) {
	for _, g := range goods() {
		if !ledger.Check(g.l) {
			t.Errorf("%+v", g.l)
		}
	}
	for _, l := range wrongs() {
		if ledger.Check(l) {
			t.Errorf("%+v", l)
		}
	}
	if !ledger.Check(holding(9, 4, 2, 3)) || !ledger.Check(holding(28, 10, 5, 6, 7)) {
		t.Error("at the quota")
	}
	if ledger.Check(api.Ledger{Next: 1, Holds: make([]api.Hold, 1000)}) {
		t.Error("a thousand")
	}
}

// reserves looks whether Reserve of h into l is OK, with h behind the holds.
func reserves(t *testing.T, what string, l api.Ledger, h api.Hold) {
	t.Helper()
	want := copied(l)
	want.Next++
	want.Held += h.Bytes
	h.ID = l.Next
	want.Holds = append(want.Holds, h)
	id := h.ID
	h.ID = 77 // its own says nothing
	if got, n, e := ledger.Reserve(l, h); !same(got, want) || n != id || e != api.OK {
		t.Errorf("%s: %+v, %d, %d, not %+v", what, got, n, e, want)
	}
}

// P19.2: a hold stands behind the others, with Next as its ID.
func TestReserve(t *testing.T) {
	reserves(t, "the first one", api.Ledger{Quota: 10, Next: 1}, hold(9, 4))
	reserves(t, "just enough", api.Ledger{Quota: 10, Used: 6, Next: 1}, hold(0, 4))
	reserves(t, "just enough, of held ones", holding(30, 5, 6, 7), hold(1, 12))
	reserves(t, "of none", api.Ledger{Next: 1}, hold(1, 0))
	reserves(t, "all", api.Ledger{Quota: much, Next: 4}, hold(1, much))
	reserves(t, "the eighth one", holding(1000, 0, 1, 2, 3, 4, 5, 6, 7), hold(1, 8))
	reserves(t, "the last ID", api.Ledger{Quota: 5, Next: api.MaxNum - 1}, hold(1, 5))
	reserves(t, "at the limits", api.Ledger{Quota: much, Next: 2}, api.Hold{Client: 7, Bytes: much, Until: late, Time: late, Space: name16})
	reserves(t, "at the other ones", api.Ledger{Quota: much, Next: 2}, api.Hold{Space: "0"})
	reserves(t, "of a ledger that may not be", api.Ledger{Quota: 3, Used: -4, Held: 2, Next: 2, Holds: []api.Hold{{ID: 9}}}, hold(1, 5))
	reserves(t, "of a great quota", api.Ledger{Quota: greatest, Used: greatest - 9, Held: 4, Next: 2}, hold(1, 5))
	reserves(t, "of the least numbers", api.Ledger{Quota: 0, Used: least, Held: -1, Next: 2}, hold(1, 5))
}

// refused looks whether Reserve of h is refused, with l answered as it is.
func refused(t *testing.T, what string, l api.Ledger, h api.Hold, want api.Errno) {
	t.Helper()
	if got, n, e := ledger.Reserve(l, h); !same(got, l) || n != 0 || e != want {
		t.Errorf("%s: %+v, %d, %d, not %d", what, got, n, e, want)
	}
}

// P19.2: Reserve's errors, of which the first one that applies is told.
func TestReserveWrong(t *testing.T) {
	eight := holding(100, 0, 1, 2, 3, 4, 5, 6, 7, 8)
	nine := holding(100, 0, 1, 2, 3, 4, 5, 6, 7, 8, 9)
	last := api.Ledger{Quota: 100, Next: api.MaxNum}
	for _, l := range []api.Ledger{holding(100, 10, 5), holding(5, 5), eight, nine, last} {
		for _, change := range wrongHolds() {
			h := hold(2, 1)
			change(&h)
			refused(t, "a hold that may not be", l, h, api.ErrArg)
		}
	}
	for _, next := range []int{least, -1, 0, api.MaxNum + 1, greatest} {
		refused(t, "a Next that may not be", api.Ledger{Quota: 10, Next: next}, hold(2, 1), api.ErrArg)
		refused(t, "that of a full one", changed(eight, func(l *api.Ledger) { l.Next = next }), hold(2, 1), api.ErrArg)
	}
	for _, bytes := range []int{0, 64, 65, much} {
		refused(t, "full", eight, hold(2, bytes), api.ErrFull)
		refused(t, "more than full", nine, hold(2, bytes), api.ErrFull)
		refused(t, "no ID behind it", last, hold(2, bytes), api.ErrFull)
	}
	refused(t, "one too few", api.Ledger{Quota: 10, Used: 6, Next: 1}, hold(0, 5), api.ErrQuota)
	refused(t, "one too few, of held ones", holding(30, 5, 6, 7), hold(0, 13), api.ErrQuota)
	refused(t, "one too few of all", api.Ledger{Quota: much, Used: 1, Next: 4}, hold(1, much), api.ErrQuota)
	refused(t, "of none", api.Ledger{Next: 1}, hold(1, 1), api.ErrQuota)
	refused(t, "over the quota ahead of it", api.Ledger{Quota: 5, Used: 6, Next: 1}, hold(1, 0), api.ErrQuota)
	for _, l := range []api.Ledger{
		{Quota: greatest, Used: greatest, Held: greatest, Next: 1}, {Quota: greatest, Used: greatest, Held: 1, Next: 1}, {Quota: greatest, Used: 1, Held: greatest, Next: 1},
		{Quota: greatest, Used: greatest, Next: 1}, {Quota: greatest, Held: greatest, Next: 1}, {Quota: greatest, Used: greatest - 5, Held: 5, Next: 1},
		{Quota: greatest, Used: least, Held: least, Next: 1}, {Quota: 1, Used: least, Held: -2, Next: 1},
	} {
		refused(t, "beyond the range", l, hold(1, 1), api.ErrQuota)
	}
}

// takes looks whether what came of l, and e, are want and OK.
func takes(t *testing.T, what string, got api.Ledger, e api.Errno, want api.Ledger) {
	t.Helper()
	if !same(got, want) || e != api.OK {
		t.Errorf("%s: %+v, %d, not %+v", what, got, e, want)
	}
}

// keeps looks whether what came of l is l as it is, and e is want.
func keeps(t *testing.T, what string, got api.Ledger, e api.Errno, l api.Ledger, want api.Errno) {
	t.Helper()
	if !same(got, l) || e != want {
		t.Errorf("%s: %+v, %d, not %+v, %d", what, got, e, l, want)
	}
}

// without is l without the hold at i.
func without(l api.Ledger, i int) api.Ledger {
	l = copied(l)
	l.Held -= l.Holds[i].Bytes
	l.Holds = append(l.Holds[:i], l.Holds[i+1:]...)
	return l
}

// twice is a ledger that has the id 2 twice, with unlike bytes.
func twice() api.Ledger {
	return api.Ledger{Quota: 1, Used: 3, Held: 90, Next: 1, Holds: []api.Hold{hold(3, 5), hold(2, 6), hold(2, 7), hold(1, 8)}}
}

// P19.2: the first hold of that id goes.
func TestRelease(t *testing.T) {
	l := holding(100, 10, 5, 0, 7)
	for i := range l.Holds {
		got, e := ledger.Release(l, i+1)
		takes(t, "one of three", got, e, without(l, i))
	}
	one := holding(5, 0, 5)
	got, e := ledger.Release(one, 1)
	takes(t, "the only one", got, e, api.Ledger{Quota: 5, Next: 2})
	got, e = ledger.Release(twice(), 2)
	takes(t, "there twice", got, e, without(twice(), 1))
	wrong := api.Ledger{Holds: []api.Hold{{ID: -3, Bytes: -4}}}
	got, e = ledger.Release(wrong, -3)
	takes(t, "one that may not be", got, e, api.Ledger{Held: 4})
	for _, id := range []int{least, -1, 0, 4, 5, api.MaxNum, greatest} {
		got, e = ledger.Release(l, id)
		keeps(t, "not there", got, e, l, api.ErrNone)
		got, e = ledger.Release(api.Ledger{Quota: 3, Next: 9}, id)
		keeps(t, "of none", got, e, api.Ledger{Quota: 3, Next: 9}, api.ErrNone)
	}
}

// P19.2: the first hold of that id goes, and so many of its bytes are used.
func TestSpend(t *testing.T) {
	l := holding(100, 10, 5, 0, 7)
	for i, h := range l.Holds {
		for _, bytes := range []int{0, 1, h.Bytes - 1, h.Bytes} {
			if bytes < 0 || bytes > h.Bytes {
				continue
			}
			got, e := ledger.Spend(l, i+1, bytes)
			takes(t, "of one of three", got, e, changed(without(l, i), func(l *api.Ledger) { l.Used += bytes }))
		}
		for _, bytes := range []int{least, -1, h.Bytes + 1, h.Bytes + 100, greatest} {
			got, e := ledger.Spend(l, i+1, bytes)
			keeps(t, "more or less than it has", got, e, l, api.ErrQuota)
		}
	}
	got, e := ledger.Spend(twice(), 2, 6)
	takes(t, "there twice", got, e, changed(without(twice(), 1), func(l *api.Ledger) { l.Used = 9 }))
	got, e = ledger.Spend(twice(), 2, 7)
	keeps(t, "what the second one has", got, e, twice(), api.ErrQuota)
	wrong := api.Ledger{Holds: []api.Hold{{ID: 1, Bytes: -4}}}
	for _, bytes := range []int{-5, -4, -1, 0, 1} {
		got, e = ledger.Spend(wrong, 1, bytes)
		keeps(t, "of less than none", got, e, wrong, api.ErrQuota)
	}
	for _, id := range []int{least, -1, 0, 4, 5, api.MaxNum, greatest} {
		for _, bytes := range []int{-1, 0, 1, 5, much + 1} {
			got, e = ledger.Spend(l, id, bytes)
			keeps(t, "not there", got, e, l, api.ErrNone)
		}
	}
}

// P19.2: so many bytes are used no more.
func TestFree(t *testing.T) {
	l := holding(100, 10, 5, 7)
	for _, bytes := range []int{0, 1, 9, 10} {
		got, e := ledger.Free(l, bytes)
		takes(t, "of ten", got, e, changed(l, func(l *api.Ledger) { l.Used = 10 - bytes }))
	}
	for _, bytes := range []int{least, -1, 11, 12, much, greatest} {
		got, e := ledger.Free(l, bytes)
		keeps(t, "of ten", got, e, l, api.ErrArg)
	}
	got, e := ledger.Free(api.Ledger{}, 0)
	takes(t, "none of none", got, e, api.Ledger{})
	for _, bytes := range []int{-2, -1, 0, 1} {
		got, e = ledger.Free(api.Ledger{Used: -1}, bytes)
		keeps(t, "of less than none", got, e, api.Ledger{Used: -1}, api.ErrArg)
	}
	got, e = ledger.Free(api.Ledger{Used: greatest}, greatest)
	takes(t, "of the most", got, e, api.Ledger{})
}

// P19.2: another quota, from what is used and held on.
func TestQuota(t *testing.T) {
	l := holding(100, 10, 5, 7)
	for _, bytes := range []int{22, 23, 99, 100, 101, much - 1, much} {
		got, e := ledger.Quota(l, bytes)
		takes(t, "it has room", got, e, changed(l, func(l *api.Ledger) { l.Quota = bytes }))
	}
	for _, bytes := range []int{0, 1, 10, 12, 21} {
		got, e := ledger.Quota(l, bytes)
		keeps(t, "it has none", got, e, l, api.ErrHeld)
	}
	over := api.Ledger{Quota: 3, Used: greatest, Held: greatest}
	for _, bytes := range []int{least, -1, much + 1, greatest} {
		got, e := ledger.Quota(l, bytes)
		keeps(t, "no quota", got, e, l, api.ErrArg)
		got, e = ledger.Quota(over, bytes)
		keeps(t, "no quota of too much", got, e, over, api.ErrArg)
	}
	got, e := ledger.Quota(api.Ledger{Quota: 5, Next: 3}, 0)
	takes(t, "none", got, e, api.Ledger{Next: 3})
	for _, wrong := range []api.Ledger{over, {Used: greatest, Held: 1}, {Used: 1, Held: greatest}, {Used: much, Held: 1}} {
		got, e = ledger.Quota(wrong, much)
		keeps(t, "beyond the range", got, e, wrong, api.ErrHeld)
	}
	got, e = ledger.Quota(api.Ledger{Used: much + 5, Held: -5}, much)
	takes(t, "together at it", got, e, api.Ledger{Quota: much, Used: much + 5, Held: -5})
}

// P19.3: the holds whose Until is below now go.
func TestExpire(t *testing.T) {
	l := holding(100, 10, 1, 2, 4) // until 10, 20 and 30
	l.Holds[0].Until, l.Holds[1].Until = 20, 10
	for now, want := range map[int][]int{
		least: {1, 2, 3}, -1: {1, 2, 3}, 0: {1, 2, 3}, 9: {1, 2, 3}, 10: {1, 2, 3},
		11: {1, 3}, 20: {1, 3}, 21: {3}, 30: {3}, 31: nil, late: nil, greatest: nil,
	} {
		left := copied(l)
		left.Holds, left.Held = nil, 0
		for _, id := range want {
			left.Holds = append(left.Holds, l.Holds[id-1])
			left.Held += l.Holds[id-1].Bytes
		}
		if got, n := ledger.Expire(l, now); !same(got, left) || n != 3-len(want) {
			t.Errorf("at %d: %+v, %d", now, got, n)
		}
	}
	if got, n := ledger.Expire(api.Ledger{Quota: 3, Held: 2, Next: 1}, late); !same(got, api.Ledger{Quota: 3, Held: 2, Next: 1}) || n != 0 {
		t.Errorf("of none: %+v, %d", got, n)
	}
	same10 := holding(100, 0, 1, 2, 3, 4, 5, 6, 7, 8, 9)
	for i := range same10.Holds {
		same10.Holds[i].Until = 5
	}
	if got, n := ledger.Expire(same10, 5); !same(got, same10) || n != 0 {
		t.Errorf("of nine at their time: %+v, %d", got, n)
	}
	if got, n := ledger.Expire(same10, 6); !same(got, api.Ledger{Quota: 100, Next: 10}) || n != 9 {
		t.Errorf("of nine behind it: %+v, %d", got, n)
	}
}

// P19.3: the first hold of that id.
func TestFind(t *testing.T) {
	l := twice()
	for id, want := range map[int]api.Hold{1: l.Holds[3], 2: l.Holds[1], 3: l.Holds[0]} {
		if h, ok := ledger.Find(l, id); h != want || !ok {
			t.Errorf("%d: %+v, %v", id, h, ok)
		}
	}
	for _, id := range []int{least, -1, 0, 4, greatest} {
		if h, ok := ledger.Find(l, id); h != (api.Hold{}) || ok {
			t.Errorf("%d: %+v, %v", id, h, ok)
		}
	}
	if h, ok := ledger.Find(api.Ledger{Holds: []api.Hold{{Bytes: 3}}}, 0); h.Bytes != 3 || !ok {
		t.Errorf("the id 0: %+v, %v", h, ok)
	}
	if h, ok := ledger.Find(api.Ledger{Next: 1}, 1); h != (api.Hold{}) || ok {
		t.Errorf("of none: %+v, %v", h, ok)
	}
}

// P19.3: the bytes, behind what is there.
func TestPut(t *testing.T) {
	for _, g := range goods() {
		for _, ahead := range []string{"", "x", "ahead"} {
			if b := ledger.Put([]byte(ahead), g.l); string(b) != ahead+g.b {
				t.Errorf("%+v: %x", g.l, b)
			}
		}
	}
	if b := ledger.Put(nil, api.Ledger{Quota: -1, Used: 3, Holds: []api.Hold{{ID: 2}, {ID: 1, Time: -5, Space: "A"}}}); string(b) != "\x00\x03\x00\x00\x02\x02\x00\x00\x00\x00\x00\x01\x00\x00\x00\x00\x01A" {
		t.Errorf("one that may not be: %x", b)
	}
}

// P19.3: what was written is read, whatever stands behind.
func TestRead(t *testing.T) {
	for _, g := range goods() {
		for _, more := range []string{"", "\x00", "more"} {
			r := pack.Open([]byte(g.b + more))
			if l := ledger.Read(r); !same(l, g.l) || r.Err() != api.OK || r.Left() != len(more) {
				t.Errorf("%+v: %+v, %d, %d are left", g.l, l, r.Err(), r.Left())
			}
		}
	}
}

// P19.3: bytes that end too early, at each place.
func TestReadShort(t *testing.T) {
	for _, g := range goods() {
		for end := range g.b {
			r := pack.Open([]byte(g.b[:end]))
			if l := ledger.Read(r); !same(l, api.Ledger{}) || r.Err() != api.ErrShort || r.Left() != 0 {
				t.Errorf("the first %d bytes of %+v: %+v, %d", end, g.l, l, r.Err())
			}
		}
	}
}

// P19.3, rule R7: the first error from left to right, each field with its
// limit; what may not be is told behind these.
func TestReadWrong(t *testing.T) {
	over, num, bad := "\xa0\x80\x80\x80\x80\x01", "\x88\x80\x80\x80\x01", "\x80\x01" // 2^40 + 1, 2^31 + 1, two forms
	for _, x := range []struct {
		b    string
		want api.Errno
	}{
		{over, api.ErrLong}, {bad, api.ErrForm},
		{"\x09" + over, api.ErrLong}, {"\x09" + bad, api.ErrForm},
		{"\x09\x00" + over, api.ErrLong}, {"\x09\x00" + bad, api.ErrForm},
		{"\x09\x00\x00" + num, api.ErrLong}, {"\x09\x00\x00" + bad, api.ErrForm},
		{"\x09\x00\x01\x02\x09", api.ErrLong}, {"\x09\x00\x01\x02" + bad, api.ErrForm},
		{"\x09\x00\x01\x02\x01" + num, api.ErrLong}, {"\x09\x00\x01\x02\x01" + bad, api.ErrForm},
		{"\x09\x00\x01\x02\x01\x01\x08", api.ErrLong}, {"\x09\x00\x01\x02\x01\x01" + bad, api.ErrForm},
		{"\x09\x00\x01\x02\x01\x01\x00" + over, api.ErrLong}, {"\x09\x00\x01\x02\x01\x01\x00" + bad, api.ErrForm},
		{"\x09\x00\x01\x02\x01\x01\x00\x01" + over, api.ErrLong}, {"\x09\x00\x01\x02\x01\x01\x00\x01" + bad, api.ErrForm},
		{"\x09\x00\x01\x02\x01\x01\x00\x01\x00" + over, api.ErrLong}, {"\x09\x00\x01\x02\x01\x01\x00\x01\x00" + bad, api.ErrForm},
		{"\x09\x00\x01\x02\x01\x01\x00\x01\x00\x00\x11" + name17, api.ErrLong}, {"\x09\x00\x01\x02\x01\x01\x00\x01\x00\x00" + bad, api.ErrForm},
		{"\x09\x00\x01\x02\x01\x01\x00\x01\x00\x00\x11", api.ErrLong},
		{"\x09\x00\x01\x02\x01\x88\x80\x80\x80\x00\x00\x01\x00\x00\x01a", api.ErrForm}, // the id 2^31 has its limit
		{"\x09\x00\x01\x02\x01\x00\x08", api.ErrLong},                                  // the id 0, too
		{"\x00\x09\x01\x00\x01\x00\x00\x01", api.ErrShort},                             // nothing of it may be
		{"\x00\x09\x01\x00\x01\x00\x00\x01\x00\x00\x01A", api.ErrForm},
		{"\x09\x00\x03\x03\x02\x02\x00\x01\x00\x00\x01a\x01\x00\x02\x00\x00\x01", api.ErrShort}, // ids that fall
		{"\x09\x00\x03\x03\x02\x02\x00\x01\x00\x00\x01a\x01\x00\x02\x00\x00\x01a", api.ErrForm},
		{"\x09\x00\x03\x03\x02\x02\x00\x01\x00\x00\x01a\x01\x08", api.ErrLong},
		{"", api.ErrShort},
	} {
		r := pack.Open([]byte(x.b))
		if l := ledger.Read(r); !same(l, api.Ledger{}) || r.Err() != x.want || r.Left() != 0 {
			t.Errorf("%x: %+v, %d, not %d", x.b, l, r.Err(), x.want)
		}
	}
}

// P19.3: of a ledger that may not be, whose fields have their limits, ErrForm.
func TestReadForm(t *testing.T) {
	forms := 0
	for _, l := range wrongs() {
		r := pack.Open(ledger.Put(nil, l))
		got := ledger.Read(r)
		if r.Err() == api.OK { // what is below 0 is written as 0
			if !ledger.Check(got) {
				t.Errorf("%+v: %+v", l, got)
			}
			continue
		}
		if !same(got, api.Ledger{}) || r.Err() != api.ErrForm && r.Err() != api.ErrLong {
			t.Errorf("%+v: %+v, %d", l, got, r.Err())
		}
		if r.Err() == api.ErrForm {
			forms++
		}
	}
	if forms < 20 {
		t.Errorf("ErrForm of %d alone", forms)
	}
}

// P19.3: a reader that has an error already, or that no call made.
func TestReadNone(t *testing.T) {
	r := pack.Open([]byte("\x00\x00\x00\x01\x00"))
	r.Fail(api.ErrSum)
	if l := ledger.Read(r); !same(l, api.Ledger{}) || r.Err() != api.ErrSum {
		t.Errorf("%+v, %d", l, r.Err())
	}
	for _, r := range []*pack.Reader{nil, {}} {
		if l := ledger.Read(r); !same(l, api.Ledger{}) || r.Err() != api.ErrNil {
			t.Errorf("%+v, %d", l, r.Err())
		}
	}
}

// P19.3: field by field, of such that may not be, too.
func TestSame(t *testing.T) {
	all := func() api.Ledger {
		return api.Ledger{Quota: 1, Used: 2, Held: -3, Next: 4, Holds: []api.Hold{hold(2, 5), {ID: 2, Space: "A"}, {}}}
	}
	if !ledger.Same(all(), all()) || !ledger.Same(api.Ledger{}, api.Ledger{Holds: []api.Hold{}}) {
		t.Error("the same are not")
	}
	changes := []func(l *api.Ledger){
		func(l *api.Ledger) { l.Quota++ }, func(l *api.Ledger) { l.Used-- }, func(l *api.Ledger) { l.Held++ }, func(l *api.Ledger) { l.Next++ },
		func(l *api.Ledger) { l.Holds = nil }, func(l *api.Ledger) { l.Holds = l.Holds[1:] }, func(l *api.Ledger) { l.Holds = l.Holds[:2] },
		func(l *api.Ledger) { l.Holds = append(l.Holds, api.Hold{}) }, func(l *api.Ledger) { l.Holds[0], l.Holds[1] = l.Holds[1], l.Holds[0] },
	}
	for i := range all().Holds {
		for _, change := range []func(h *api.Hold){
			func(h *api.Hold) { h.ID++ }, func(h *api.Hold) { h.Client++ }, func(h *api.Hold) { h.Bytes-- },
			func(h *api.Hold) { h.Until++ }, func(h *api.Hold) { h.Time-- }, func(h *api.Hold) { h.Space += "a" },
		} {
			changes = append(changes, func(l *api.Ledger) { change(&l.Holds[i]) })
		}
	}
	for i, change := range changes {
		if l := changed(all(), change); ledger.Same(l, all()) || ledger.Same(all(), l) {
			t.Errorf("change %d: %+v", i, l)
		}
	}
}

// step does one of the calls with numbers that often fit, and tells whether it
// was OK.
func step(rnd *rand.Rand, l api.Ledger) (api.Ledger, bool) {
	var e api.Errno
	id := l.Next - 1 - rnd.Intn(9)
	switch rnd.Intn(7) {
	case 0, 1:
		h := hold(0, rnd.Intn(40))
		h.Until = rnd.Intn(50)
		l, _, e = ledger.Reserve(l, h)
	case 2:
		l, e = ledger.Release(l, id)
	case 3:
		l, e = ledger.Spend(l, id, rnd.Intn(30)-1)
	case 4:
		l, e = ledger.Free(l, rnd.Intn(60)-1)
	case 5:
		l, e = ledger.Quota(l, rnd.Intn(200))
	default:
		n := 0
		if l, n = ledger.Expire(l, rnd.Intn(40)); n == 0 {
			e = api.ErrNone
		}
	}
	return l, e == api.OK
}

// P19.4: of a ledger that may be each call makes one that may be, which is read
// as it was written; with an error it is as it was.
func TestKeepsMay(t *testing.T) {
	rnd := rand.New(rand.NewSource(19))
	done := 0
	for range 300 {
		l := api.Ledger{Quota: rnd.Intn(150), Next: 1 + rnd.Intn(5)}
		if rnd.Intn(5) == 0 {
			l.Next = api.MaxNum - rnd.Intn(9)
		}
		for range 40 {
			next, ok := step(rnd, l)
			if !ledger.Check(next) || !ok && !same(next, l) {
				t.Fatalf("of %+v: %+v, %v", l, next, ok)
			}
			r := pack.Open(ledger.Put(nil, next))
			if back := ledger.Read(r); !ledger.Same(back, next) || r.End() != api.OK {
				t.Fatalf("%+v: %+v, %d", next, back, r.Err())
			}
			if ok {
				done++
			}
			l = next
		}
	}
	if done < 3000 {
		t.Errorf("%d were OK", done)
	}
}

// P19.5: Release of what Reserve gave comes to the same as ahead, but for Next.
func TestReserveRelease(t *testing.T) {
	rnd := rand.New(rand.NewSource(195))
	reserved := 0
	for range 300 {
		l := api.Ledger{Quota: rnd.Intn(150), Next: 1 + rnd.Intn(api.MaxNum-50)}
		for range 20 {
			given, id, e := ledger.Reserve(l, hold(0, rnd.Intn(40)))
			if e == api.OK {
				reserved++
				back, e := ledger.Release(given, id)
				back.Next--
				if e != api.OK || !same(back, l) {
					t.Fatalf("%+v: %+v, %d", l, back, e)
				}
			}
			l, _ = step(rnd, l)
		}
	}
	if reserved < 1000 {
		t.Errorf("%d alone", reserved)
	}
}

// Rule R3: what is handed in is neither changed nor kept, what is answered is
// the caller's own.
func TestNothingShared(t *testing.T) {
	room := make([]api.Hold, 3, 10)
	ours := holding(100, 10, 5, 6, 7)
	copy(room, ours.Holds)
	l := changed(ours, func(l *api.Ledger) { l.Holds = room })
	behind := room[:10]
	calls := map[string]func() api.Ledger{
		"Reserve":       func() api.Ledger { x, _, _ := ledger.Reserve(l, hold(0, 1)); return x },
		"Reserve not":   func() api.Ledger { x, _, _ := ledger.Reserve(l, hold(0, 1000)); return x },
		"Release":       func() api.Ledger { x, _ := ledger.Release(l, 1); return x },
		"Release not":   func() api.Ledger { x, _ := ledger.Release(l, 9); return x },
		"Spend":         func() api.Ledger { x, _ := ledger.Spend(l, 2, 6); return x },
		"Spend none":    func() api.Ledger { x, _ := ledger.Spend(l, 9, 6); return x },
		"Spend not":     func() api.Ledger { x, _ := ledger.Spend(l, 2, 7); return x },
		"Free":          func() api.Ledger { x, _ := ledger.Free(l, 1); return x },
		"Free not":      func() api.Ledger { x, _ := ledger.Free(l, 11); return x },
		"Quota":         func() api.Ledger { x, _ := ledger.Quota(l, 200); return x },
		"Quota not":     func() api.Ledger { x, _ := ledger.Quota(l, -1); return x },
		"Quota is held": func() api.Ledger { x, _ := ledger.Quota(l, 1); return x },
		"Expire":        func() api.Ledger { x, _ := ledger.Expire(l, 11); return x },
		"Expire none":   func() api.Ledger { x, _ := ledger.Expire(l, 0); return x },
	}
	for name, call := range calls {
		got := call()
		clear(got.Holds[:cap(got.Holds)])
		if !slices.Equal(room, ours.Holds) || !slices.Equal(behind[3:], make([]api.Hold, 7)) {
			t.Errorf("%s: %+v", name, behind)
		}
		copy(room, ours.Holds)
		got = call()
		want := copied(got)
		clear(room)
		if !same(got, want) {
			t.Errorf("%s: is kept", name)
		}
		copy(room, ours.Holds)
	}
	b := append(make([]byte, 0, 64), "ahead"...)
	first := ledger.Put(b, api.Ledger{Next: 1})
	second := ledger.Put(b, holding(9, 1, 2))
	if string(b[:64]) != "ahead"+string(make([]byte, 59)) || string(first) != "ahead\x00\x00\x00\x01\x00" {
		t.Errorf("Put: %q, %q", b[:64], first)
	}
	clear(first[:cap(first)])
	if string(b) != "ahead" {
		t.Errorf("Put's bytes are shared: %q", b)
	}
	r := pack.Open(second[5:])
	back := ledger.Read(r)
	clear(second)
	if !same(back, holding(9, 1, 2)) {
		t.Errorf("Read's are shared: %+v", back)
	}
}

// The chapter's example.
func TestExample(t *testing.T) {
	l := holding(10, 4, 5)
	if _, _, e := ledger.Reserve(l, hold(0, 2)); e != api.ErrQuota {
		t.Errorf("of two: %d", e)
	}
	if got, id, e := ledger.Reserve(l, hold(0, 1)); e != api.OK || id != 2 || got.Held != 6 {
		t.Errorf("of one: %+v, %d, %d", got, id, e)
	}
}

// P19.3: any bytes: what is taken may be, and has just those bytes.
func FuzzRead(f *testing.F) {
	for _, g := range goods() {
		f.Add([]byte(g.b))
	}
	f.Fuzz(func(t *testing.T, b []byte) {
		r := pack.Open(b)
		l := ledger.Read(r)
		if r.Err() != api.OK {
			if !same(l, api.Ledger{}) || r.Err() != api.ErrShort && r.Err() != api.ErrForm && r.Err() != api.ErrLong {
				t.Errorf("%x: %+v, %d", b, l, r.Err())
			}
			return
		}
		if taken := b[:len(b)-r.Left()]; !ledger.Check(l) || string(ledger.Put(nil, l)) != string(taken) {
			t.Errorf("%x: %+v", b, l)
		}
	})
}
