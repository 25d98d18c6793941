package catalog_test

import (
	"crypto/sha256"
	"fmt"
	"math"
	"slices"
	"strings"
	"testing"

	"bailey/api"
	"bailey/catalog"
	"bailey/command"
	"bailey/pack"
)

const (
	least    = math.MinInt
	greatest = math.MaxInt
	num      = api.MaxNum
	late     = api.MaxTime
	most     = api.MaxBytes
	name16   = "abcdefghij_-0189"
	name17   = name16 + "z"
	numCode  = "\x88\x80\x80\x80\x00"             // 2^31
	bigCode  = "\xa0\x80\x80\x80\x80\x00"         // 2^40
	overCode = "\xa0\x80\x80\x80\x80\x01"         // one more
	linkCode = "\xc0\x80\x80\x80\x80\x80\x80\x80" // 2^62 begins so
)

// sum is 32 bytes, of which the first one tells them apart.
func sum(first byte) string { return string([]byte{first}) + strings.Repeat("\xfe", 31) }

// pieces are such of these sizes, with the sums a, b and so on.
func pieces(sizes ...int) []api.Piece {
	var l []api.Piece
	for i, n := range sizes {
		l = append(l, api.Piece{Sum: sum(byte('a' + i)), Size: n})
	}
	return l
}

// base is a catalog at the time 99 that has something of everything: clients 0
// and 1 read a, 0 and 2 write it; 2 reads b, 0 writes it.
func base() api.Catalog {
	return api.Catalog{
		Time:   99,
		Spaces: []api.Space{{Name: "a", Readers: 3, Writers: 5}, {Name: "b", Readers: 4, Writers: 1}},
		Ledger: api.Ledger{Quota: 1000, Used: 300, Held: 150, Next: 9, Holds: []api.Hold{
			{ID: 2, Client: 0, Bytes: 50, Until: 100, Time: 10, Space: "a"},
			{ID: 5, Client: 2, Bytes: 60, Until: 300, Time: 20, Space: "a"},
			{ID: 8, Client: 0, Bytes: 40, Until: 400, Time: 30, Space: "b"},
		}},
		Snaps: []api.Snap{
			{Space: "a", Name: "held", Bytes: 30, Time: 5, Keep: 101, Pieces: pieces(10, 20)},
			{Space: "a", Name: "old", Bytes: 8, Time: 6, Keep: 100, Pieces: pieces(8)},
			{Space: "b", Name: "none", Time: 7, Keep: 8},
		},
		Revoked: api.Revoked{Epoch: 3, Next: 9, IDs: []int{2, 4}},
		Chain:   api.Chain{Length: 7, Head: sum('h')},
		Swept:   12,
	}
}

// asks is a command of the kind with the token 1, of the client 0.
func asks(kind int, change func(x *api.Command)) api.Command {
	x := api.Command{Seq: 1, Kind: kind, ID: 1, Epoch: 3}
	if change != nil {
		change(&x)
	}
	return x
}

// copied is c in memory of its own.
func copied(c api.Catalog) api.Catalog {
	c.Spaces, c.Ledger.Holds, c.Revoked.IDs = slices.Clone(c.Spaces), slices.Clone(c.Ledger.Holds), slices.Clone(c.Revoked.IDs)
	c.Snaps = slices.Clone(c.Snaps)
	for i := range c.Snaps {
		c.Snaps[i].Pieces = slices.Clone(c.Snaps[i].Pieces)
	}
	return c
}

// line is c as a text, without the package's own Same and Put; nil lists are
// as empty ones.
func line(c api.Catalog) string { return fmt.Sprintf("%+q", fmt.Sprint(c)) }

func told(r api.Result) string { return fmt.Sprintf("%+q", fmt.Sprint(r)) }

func alike(a, b api.Catalog) bool { return line(a) == line(b) }

// ticked is c at its next time, without what has expired, as Apply begins.
func ticked(c api.Catalog) api.Catalog {
	c = copied(c)
	c.Time = min(c.Time, late-1) + 1
	c.Ledger.Holds = slices.DeleteFunc(c.Ledger.Holds, func(h api.Hold) bool {
		if h.Until < c.Time {
			c.Ledger.Held -= h.Bytes
		}
		return h.Until < c.Time
	})
	return c
}

// linked is the chain behind x's bytes.
func linked(c api.Chain, x api.Command) api.Chain {
	b, _ := command.Encode(x)
	s := sha256.Sum256(slices.Concat([]byte(c.Head), pack.Num(nil, c.Length), b))
	return api.Chain{Length: min(c.Length, 1<<62-1) + 1, Head: string(s[:])}
}

// does looks whether x is done in c: just so it changes, and just that is told.
func does(t *testing.T, what string, c api.Catalog, x api.Command, r api.Result, change func(c *api.Catalog)) api.Catalog {
	t.Helper()
	want := ticked(c)
	if change != nil {
		change(&want)
	}
	want.Chain = linked(c.Chain, x)
	got, answer := catalog.Apply(c, x)
	if told(answer) != told(r) {
		t.Errorf("%s: told %s, not %s", what, told(answer), told(r))
	}
	if !alike(got, want) {
		t.Errorf("%s:\n%s, not\n%s", what, line(got), line(want))
	}
	if catalog.Check(c) && !catalog.Check(got) {
		t.Errorf("%s: it may not be: %s", what, line(got))
	}
	return got
}

// refused looks whether x is refused in c: nothing but the time and what
// expired has changed.
func refused(t *testing.T, what string, c api.Catalog, x api.Command, e api.Errno) {
	t.Helper()
	want := ticked(c)
	got, r := catalog.Apply(c, x)
	if told(r) != told(api.Result{Code: e}) {
		t.Errorf("%s: told %s, not %d", what, told(r), e)
	}
	if !alike(got, want) {
		t.Errorf("%s:\n%s, not\n%s", what, line(got), line(want))
	}
}

// answers looks whether Query of x tells that, and changes nothing.
func answers(t *testing.T, what string, c api.Catalog, x api.Command, want api.Result) {
	t.Helper()
	kept := copied(c)
	if r := catalog.Query(c, x); told(r) != told(want) {
		t.Errorf("%s: told %s, not %s", what, told(r), told(want))
	}
	if !alike(c, kept) {
		t.Errorf("%s: it was changed: %s", what, line(c))
	}
}

// wrongCommands may not be, whatever their kind (but for those that have
// another one).
func wrongCommands(kind int) []api.Command {
	return []api.Command{
		{}, {Kind: kind},
		asks(kind, func(x *api.Command) { x.Client = 8 }), asks(kind, func(x *api.Command) { x.Client = -1 }),
		asks(kind, func(x *api.Command) { x.Seq = 0 }), asks(kind, func(x *api.Command) { x.Seq = num + 1 }),
		asks(kind, func(x *api.Command) { x.ID = 0 }), asks(kind, func(x *api.Command) { x.Epoch = -1 }),
		asks(kind, func(x *api.Command) { x.Caveats = make([]api.Caveat, 1) }), asks(kind, func(x *api.Command) { x.Caveats = slices.Repeat([]api.Caveat{{Kind: 1, Num: 255}}, 9) }),
		asks(kind, func(x *api.Command) { x.Space = name17 }), asks(kind, func(x *api.Command) { x.Name = "A" }),
		asks(kind, func(x *api.Command) { x.Num = -1 }), asks(kind, func(x *api.Command) { x.Num = num + 1 }),
		asks(kind, func(x *api.Command) { x.Bytes = -1 }), asks(kind, func(x *api.Command) { x.Bytes = most + 1 }),
		asks(kind, func(x *api.Command) { x.Time = -1 }), asks(kind, func(x *api.Command) { x.Time = greatest }),
		asks(kind, func(x *api.Command) { x.Pieces = pieces(0) }), asks(kind, func(x *api.Command) { x.Pieces = pieces(1, 1, 1, 1, 1, 1, 1, 1, 1) }),
		asks(0, nil), asks(-1, nil), asks(15, nil), asks(16, nil), asks(17, nil), asks(18, nil), asks(least, nil), asks(greatest, nil),
	}
}

// P24.1: what there is ahead of all.
func TestStart(t *testing.T) {
	for quota, held := range map[int]int{least: 0, -1: 0, 0: 0, 1: 1, 10: 10, most - 1: most - 1, most: most, most + 1: most, greatest: most} {
		c := catalog.Start(quota)
		want := api.Catalog{Ledger: api.Ledger{Quota: held, Next: 1}, Revoked: api.Revoked{Next: 2}, Chain: api.Chain{Head: strings.Repeat("\x00", 32)}}
		if !alike(c, want) || !catalog.Check(c) {
			t.Errorf("%d: %s", quota, line(c))
		}
	}
}

// changed is the base, changed.
func changed(change func(c *api.Catalog)) api.Catalog {
	c := base()
	change(&c)
	return c
}

// goods are catalogs that may be.
func goods() []api.Catalog {
	return []api.Catalog{
		base(), catalog.Start(0), catalog.Start(most),
		changed(func(c *api.Catalog) { c.Time, c.Swept = late, late }), changed(func(c *api.Catalog) { c.Time, c.Swept = 0, late }), changed(func(c *api.Catalog) { c.Time, c.Swept = 0, 0 }),
		changed(func(c *api.Catalog) { c.Spaces = nil }), changed(func(c *api.Catalog) { c.Spaces = []api.Space{} }), // snapshots whose namespace is none
		changed(func(c *api.Catalog) { c.Snaps = nil }), changed(func(c *api.Catalog) { c.Ledger.Used = 0 }), // less used than snapshots have
		changed(func(c *api.Catalog) { c.Revoked = api.Revoked{Epoch: num, Next: num, IDs: []int{1, num - 1}} }),
		changed(func(c *api.Catalog) { c.Chain.Length = 1 << 62 }), changed(func(c *api.Catalog) { c.Chain = api.Chain{Head: sum(0)} }),
		changed(func(c *api.Catalog) {
			c.Ledger = api.Ledger{Quota: most, Used: most - 5, Held: 5, Next: num, Holds: []api.Hold{{ID: num - 1, Client: 7, Bytes: 5, Until: late, Time: late, Space: name16}}}
		}),
	}
}

// wrongs are catalogs of which one thing may not be, and what Read says of
// their bytes.
func wrongs() []struct {
	c api.Catalog
	e api.Errno
} {
	type wrong = struct {
		c api.Catalog
		e api.Errno
	}
	l := []wrong{{api.Catalog{}, api.ErrForm}}
	add := func(e api.Errno, change func(c *api.Catalog)) { l = append(l, wrong{changed(change), e}) }
	for _, n := range []int{late + 1, greatest} {
		add(api.ErrLong, func(c *api.Catalog) { c.Time = n })
		add(api.ErrLong, func(c *api.Catalog) { c.Swept = n })
	}
	add(api.ErrForm, func(c *api.Catalog) { slices.Reverse(c.Spaces) })
	add(api.ErrForm, func(c *api.Catalog) { c.Spaces[0].Name = "A" })
	add(api.ErrLong, func(c *api.Catalog) { c.Spaces[1].Readers = 256 })
	add(api.ErrLong, func(c *api.Catalog) { c.Spaces = make([]api.Space, 7) })
	add(api.ErrForm, func(c *api.Catalog) { c.Ledger.Quota = 449 })
	add(api.ErrForm, func(c *api.Catalog) { c.Ledger.Held++ })
	add(api.ErrForm, func(c *api.Catalog) { c.Ledger.Next = 8 })
	add(api.ErrLong, func(c *api.Catalog) { c.Ledger.Used = most + 1 })
	add(api.ErrForm, func(c *api.Catalog) { c.Ledger.Holds[0].Space = "" })
	add(api.ErrForm, func(c *api.Catalog) { slices.Reverse(c.Snaps) })
	add(api.ErrForm, func(c *api.Catalog) { c.Snaps[0].Bytes++ })
	add(api.ErrForm, func(c *api.Catalog) { c.Snaps[1].Pieces[0].Size = 0 })
	add(api.ErrLong, func(c *api.Catalog) { c.Snaps[2].Keep = late + 1 })
	add(api.ErrForm, func(c *api.Catalog) { slices.Reverse(c.Revoked.IDs) })
	add(api.ErrForm, func(c *api.Catalog) { c.Revoked.IDs[1] = 9 })
	add(api.ErrForm, func(c *api.Catalog) { c.Revoked = api.Revoked{Next: 1} })
	add(api.ErrLong, func(c *api.Catalog) { c.Revoked.Epoch = num + 1 })
	add(api.ErrLong, func(c *api.Catalog) { c.Chain.Length = 1<<62 + 1 })
	add(api.ErrForm, func(c *api.Catalog) { c.Chain.Head = sum('h')[1:] })
	add(api.ErrLong, func(c *api.Catalog) { c.Chain.Head += "h" })
	return l
}

// P24.1: which may be.
func TestCheck(t *testing.T) {
	for _, c := range goods() {
		if !catalog.Check(c) {
			t.Errorf("%s", line(c))
		}
	}
	for _, w := range wrongs() {
		if catalog.Check(w.c) {
			t.Errorf("%s", line(w.c))
		}
	}
	for _, n := range []int{least, -1} { // whose bytes are those of 0
		for _, c := range []api.Catalog{
			changed(func(c *api.Catalog) { c.Time = n }), changed(func(c *api.Catalog) { c.Swept = n }), changed(func(c *api.Catalog) { c.Spaces[0].Writers = n }),
			changed(func(c *api.Catalog) { c.Ledger.Used = n }), changed(func(c *api.Catalog) { c.Snaps[0].Time = n }),
			changed(func(c *api.Catalog) { c.Revoked.Epoch = n }), changed(func(c *api.Catalog) { c.Chain.Length = n }),
		} {
			if catalog.Check(c) {
				t.Errorf("%s", line(c))
			}
		}
	}
}

// P24.1: whether the token holds.
func TestMayToken(t *testing.T) {
	for id := -1; id < 11; id++ {
		for _, epoch := range []int{least, -1, 0, 2, 3, 4, num, greatest} {
			want := api.ErrDenied
			if slices.Contains([]int{1, 3, 5, 6, 7, 8}, id) && epoch == 3 {
				want = api.OK
			}
			for kind := range 20 {
				x := asks(kind, func(x *api.Command) { x.ID, x.Epoch = id, epoch })
				if e := catalog.May(base(), x); e != want {
					t.Errorf("%d of %d, kind %d: %d", id, epoch, kind, e)
				}
			}
		}
	}
}

// limits are caveats, those a reservation of the client 2 of 40 bytes in a, of
// the name n, fulfils at the time 99, and those it does not.
func limits() (allow, refuse []api.Caveat) {
	return []api.Caveat{
		{Kind: api.CvAction, Num: 255}, {Kind: api.CvAction, Num: api.AcReserve}, {Kind: api.CvSpace, Name: "a"}, {Kind: api.CvSnap, Name: "n"},
		{Kind: api.CvUntil, Num: 99}, {Kind: api.CvUntil, Num: late}, {Kind: api.CvClient, Num: 2}, {Kind: api.CvBytes, Num: 40}, {Kind: api.CvBytes, Num: 41},
	}, []api.Caveat{
		{}, {Kind: 7}, {Kind: api.CvAction}, {Kind: api.CvAction, Num: 255 - api.AcReserve}, {Kind: api.CvSpace, Name: "b"}, {Kind: api.CvSpace, Name: "n"}, {Kind: api.CvSnap, Name: "a"},
		{Kind: api.CvUntil, Num: 98}, {Kind: api.CvUntil}, {Kind: api.CvClient, Num: 0}, {Kind: api.CvClient, Num: 3}, {Kind: api.CvBytes, Num: 39}, {Kind: api.CvBytes},
	}
}

// P24.1: whether the caveats allow it.
func TestMayCaveats(t *testing.T) {
	allow, refuse := limits()
	with := func(l ...api.Caveat) api.Errno {
		return catalog.May(base(), asks(api.OpReserve, func(x *api.Command) { x.Client, x.Bytes, x.Space, x.Name, x.Caveats = 2, 40, "a", "n", l }))
	}
	if e := with(allow...); e != api.OK {
		t.Errorf("all that allow it: %d", e)
	}
	for i, c := range allow {
		if e := with(c); e != api.OK {
			t.Errorf("%+v: %d", c, e)
		}
		for _, d := range refuse {
			if e := with(slices.Insert(slices.Clone(allow), i, d)...); e != api.ErrDenied {
				t.Errorf("%+v at %d: %d", d, i, e)
			}
		}
	}
	x := asks(api.OpCommit, func(x *api.Command) {
		x.Bytes, x.Pieces, x.Caveats = 999, pieces(20, 20), []api.Caveat{{Kind: api.CvBytes, Num: 40}}
	})
	if e := catalog.May(base(), x); e != api.OK {
		t.Errorf("a commit: %d", e)
	}
	x.Pieces[0].Size++
	if e := catalog.May(base(), x); e != api.ErrDenied {
		t.Errorf("a commit of a byte more: %d", e)
	}
}

// P24.2: the time goes on, up to the last one, whatever is answered.
func TestTime(t *testing.T) {
	for time, want := range map[int]int{0: 1, 99: 100, late - 1: late, late: late, late + 1: late, greatest: late, -1: 0, -7: -6, least: least + 1} {
		c := changed(func(c *api.Catalog) { c.Time, c.Ledger.Holds, c.Ledger.Held = time, nil, 0 })
		for _, x := range []api.Command{asks(api.OpMint, nil), asks(api.OpMint, func(x *api.Command) { x.ID = 2 }), asks(api.OpList, nil), {}} {
			if got, _ := catalog.Apply(c, x); got.Time != want {
				t.Errorf("%d, %+v: %d", time, x, got.Time)
			}
		}
	}
	does(t, "at the last time", changed(func(c *api.Catalog) { c.Time = late }), asks(api.OpSweep, nil), api.Result{Time: late}, func(c *api.Catalog) {
		c.Swept, c.Ledger.Holds, c.Ledger.Held = late, nil, 0
	})
}

// P24.2: a hold goes just behind its time, ahead of what x is.
func TestExpire(t *testing.T) {
	c := base()
	for step := 100; step < 103; step++ {
		c, _ = catalog.Apply(c, api.Command{})
		held, holds := 150, 3
		if step > 100 {
			held, holds = 100, 2
		}
		if c.Time != step || c.Ledger.Held != held || len(c.Ledger.Holds) != holds || !catalog.Check(c) {
			t.Errorf("%d: %s", step, line(c))
		}
	}
	release := asks(api.OpRelease, func(x *api.Command) { x.Num = 2 })
	does(t, "at its last time", base(), release, api.Result{}, func(c *api.Catalog) {
		c.Ledger.Holds, c.Ledger.Held = c.Ledger.Holds[1:], 100
	})
	refused(t, "behind its last time", changed(func(c *api.Catalog) { c.Time = 100 }), release, api.ErrNone)
	reserve := asks(api.OpReserve, func(x *api.Command) { x.Space, x.Bytes, x.Time = "a", 560, 5 })
	refused(t, "room that is still held", base(), reserve, api.ErrQuota)
	does(t, "room that was held", changed(func(c *api.Catalog) { c.Time = 100 }), reserve, api.Result{Num: 9, Bytes: 560, Time: 101}, func(c *api.Catalog) {
		c.Ledger.Holds = append(c.Ledger.Holds, api.Hold{ID: 9, Bytes: 560, Until: 106, Time: 101, Space: "a"})
		c.Ledger.Held, c.Ledger.Next = 660, 10
	})
	all := changed(func(c *api.Catalog) { c.Time = 400 })
	refused(t, "all have expired", all, asks(api.OpShare, nil), api.ErrArg)
}

// P24.2: a command that may not be, and kinds that are not done here, are
// refused ahead of all else; then May's error of the state then.
func TestRefusedFirst(t *testing.T) {
	for kind := api.OpSpace; kind <= api.OpSweep; kind++ {
		for i, x := range wrongCommands(kind) {
			refused(t, fmt.Sprintf("kind %d, command %d", kind, i), base(), x, api.ErrArg)
		}
	}
	for _, kind := range []int{api.OpShare, api.OpList, api.OpRestore, api.OpTotal, api.OpConf, api.OpPut, api.OpGet} {
		for _, id := range []int{1, 2} {
			x := asks(kind, func(x *api.Command) { x.ID, x.Space, x.Name, x.Num, x.Bytes = id, "a", "old", 1, 5 })
			refused(t, fmt.Sprintf("kind %d of %d", kind, id), base(), x, api.ErrArg)
		}
	}
	for kind := api.OpSpace; kind <= api.OpSweep; kind++ {
		for what, change := range map[string]func(x *api.Command){
			"revoked": func(x *api.Command) { x.ID = 4 }, "not given out": func(x *api.Command) { x.ID = 9 },
			"of an earlier epoch": func(x *api.Command) { x.Epoch = 2 }, "of a later epoch": func(x *api.Command) { x.Epoch = 4 },
			"too late":   func(x *api.Command) { x.Caveats = []api.Caveat{{Kind: api.CvUntil, Num: 99}} },
			"no actions": func(x *api.Command) { x.Caveats = []api.Caveat{{Kind: api.CvAction}} },
			"another one's": func(x *api.Command) {
				x.Caveats = []api.Caveat{{Kind: api.CvAction, Num: 255}, {Kind: api.CvClient, Num: 1}}
			},
		} {
			refused(t, fmt.Sprintf("%s, kind %d", what, kind), base(), asks(kind, change), api.ErrDenied)
		}
	}
	does(t, "at its last time", base(), asks(api.OpSweep, func(x *api.Command) { x.Caveats = []api.Caveat{{Kind: api.CvUntil, Num: 100}} }), api.Result{Time: 100}, func(c *api.Catalog) { c.Swept = 100 })
}

// P24.2: a namespace is made, or changed.
func TestSpace(t *testing.T) {
	set := func(name string, readers, writers int) api.Command {
		return asks(api.OpSpace, func(x *api.Command) {
			x.Name, x.Num, x.Bytes = name, readers, writers
			x.Space, x.Client, x.Time, x.Pieces = "zz", 6, 9, pieces(4) // none of which counts
		})
	}
	does(t, "a new one", base(), set("aa", 255, 0), api.Result{}, func(c *api.Catalog) {
		c.Spaces = []api.Space{c.Spaces[0], {Name: "aa", Readers: 255}, c.Spaces[1]}
	})
	does(t, "another one", base(), set("b", 7, 255), api.Result{}, func(c *api.Catalog) {
		c.Spaces[1] = api.Space{Name: "b", Readers: 7, Writers: 255}
	})
	does(t, "of 16 bytes", catalog.Start(0), asks(api.OpSpace, func(x *api.Command) { x.Epoch, x.Name = 0, name16 }), api.Result{}, func(c *api.Catalog) {
		c.Spaces = []api.Space{{Name: name16}}
	})
	for _, x := range []api.Command{set("", 1, 1), set("c", 256, 1), set("c", 1, 256), set("c", num, 0), set("c", 0, most), set("a", 256, 1)} {
		refused(t, "what may not be", base(), x, api.ErrArg)
	}
	full := changed(func(c *api.Catalog) {
		c.Spaces = nil
		for _, name := range []string{"a", "b", "d", "e", "f", "g"} {
			c.Spaces = append(c.Spaces, api.Space{Name: name})
		}
	})
	refused(t, "a seventh one", full, set("c", 1, 1), api.ErrFull)
	refused(t, "a seventh one that may not be", full, set("c", 256, 1), api.ErrArg)
	does(t, "one of six", full, set("d", 1, 2), api.Result{}, func(c *api.Catalog) { c.Spaces[2] = api.Space{Name: "d", Readers: 1, Writers: 2} })
}

// P24.2: who writes nothing, and where there is no namespace, all else goes by.
func TestWrites(t *testing.T) {
	for _, kind := range []int{api.OpReserve, api.OpCommit, api.OpDelete} {
		for _, wild := range []bool{false, true} { // all else is wrong, or right
			ask := func(space string, client int) api.Command {
				return asks(kind, func(x *api.Command) {
					x.Space, x.Client, x.Num, x.Name, x.Pieces = space, client, 2, "new", pieces(5)
					if kind == api.OpDelete {
						x.Name = "old"
					}
					if wild {
						x.Num, x.Name, x.Bytes = 77, "", most
					}
				})
			}
			for _, space := range []string{"", "c", "aa", "old"} {
				refused(t, fmt.Sprintf("kind %d in %q", kind, space), base(), ask(space, 0), api.ErrNone)
			}
			for _, client := range []int{1, 3, 4, 7} {
				refused(t, fmt.Sprintf("kind %d by %d", kind, client), base(), ask("a", client), api.ErrDenied)
			}
			refused(t, fmt.Sprintf("kind %d by who reads", kind), base(), ask("b", 2), api.ErrDenied)
		}
	}
}

// P24.2: bytes are reserved.
func TestReserve(t *testing.T) {
	reserve := func(client, bytes, time int, space string) api.Command {
		return asks(api.OpReserve, func(x *api.Command) { x.Client, x.Bytes, x.Time, x.Space = client, bytes, time, space })
	}
	with := func(h api.Hold) func(c *api.Catalog) {
		return func(c *api.Catalog) {
			c.Ledger.Holds, c.Ledger.Held, c.Ledger.Next = append(c.Ledger.Holds, h), c.Ledger.Held+h.Bytes, 10
		}
	}
	does(t, "some", base(), reserve(2, 70, 30, "a"), api.Result{Num: 9, Bytes: 70, Time: 100}, with(api.Hold{ID: 9, Client: 2, Bytes: 70, Until: 130, Time: 100, Space: "a"}))
	does(t, "no bytes, for no time", base(), reserve(0, 0, 0, "b"), api.Result{Num: 9, Time: 100}, with(api.Hold{ID: 9, Until: 100, Time: 100, Space: "b"}))
	does(t, "all that is left", base(), reserve(0, 550, late-100, "a"), api.Result{Num: 9, Bytes: 550, Time: 100}, with(api.Hold{ID: 9, Bytes: 550, Until: late, Time: 100, Space: "a"}))
	does(t, "for longer than may be", base(), reserve(0, 5, late-99, "a"), api.Result{Num: 9, Bytes: 5, Time: 100}, with(api.Hold{ID: 9, Bytes: 5, Until: late, Time: 100, Space: "a"}))
	does(t, "for as long as may be asked", base(), reserve(0, 5, late, "a"), api.Result{Num: 9, Bytes: 5, Time: 100}, with(api.Hold{ID: 9, Bytes: 5, Until: late, Time: 100, Space: "a"}))
	end := changed(func(c *api.Catalog) { c.Time, c.Ledger.Held, c.Ledger.Holds = late, 0, nil })
	does(t, "at the last time", end, reserve(0, 5, late, "a"), api.Result{Num: 9, Bytes: 5, Time: late}, with(api.Hold{ID: 9, Bytes: 5, Until: late, Time: late, Space: "a"}))
	for _, n := range []int{551, 1000, most} {
		refused(t, "more than is left", base(), reserve(0, n, 5, "a"), api.ErrQuota)
	}
	full := changed(func(c *api.Catalog) {
		c.Ledger.Holds, c.Ledger.Held = nil, 0
		for id := range 8 {
			c.Ledger.Holds = append(c.Ledger.Holds, api.Hold{ID: id + 1, Until: 101, Space: "a"})
		}
	})
	refused(t, "a ninth one", full, reserve(0, 5, 5, "a"), api.ErrFull)
	refused(t, "a ninth one, of too much", full, reserve(0, most, 5, "a"), api.ErrFull)
	refused(t, "no id is left", changed(func(c *api.Catalog) { c.Ledger.Next = num }), reserve(0, 5, 5, "a"), api.ErrFull)
	full.Time = 101
	does(t, "eight that have expired", full, reserve(0, 5, 5, "a"), api.Result{Num: 9, Bytes: 5, Time: 102}, with(api.Hold{ID: 9, Bytes: 5, Until: 107, Time: 102, Space: "a"}))
	before := changed(func(c *api.Catalog) { c.Time = -9 })
	refused(t, "ahead of all time", before, reserve(0, 5, 5, "a"), api.ErrArg)
}

// P24.2: a reservation is given back by its client alone, wherever it writes.
func TestRelease(t *testing.T) {
	release := func(client, id int) api.Command {
		return asks(api.OpRelease, func(x *api.Command) { x.Client, x.Num, x.Space = client, id, "zz" })
	}
	for i, x := range []api.Command{release(0, 2), release(2, 5), release(0, 8)} {
		does(t, fmt.Sprintf("hold %d", i), base(), x, api.Result{}, func(c *api.Catalog) {
			c.Ledger.Held -= c.Ledger.Holds[i].Bytes
			c.Ledger.Holds = slices.Delete(c.Ledger.Holds, i, i+1)
		})
	}
	for _, x := range []api.Command{release(0, 0), release(0, 1), release(0, 3), release(0, 9), release(0, num), release(0, 5), release(1, 5), release(2, 2), release(2, 8), release(7, 2)} {
		refused(t, fmt.Sprintf("%d by %d", x.Num, x.Client), base(), x, api.ErrNone)
	}
}

// commit is one of the hold in a, of pieces of these sizes.
func commit(client, id int, name string, sizes ...int) api.Command {
	return asks(api.OpCommit, func(x *api.Command) {
		x.Client, x.Num, x.Space, x.Name, x.Time, x.Pieces = client, id, "a", name, 7, pieces(sizes...)
	})
}

// P24.2: a snapshot is committed, and its reservation spent.
func TestCommit(t *testing.T) {
	with := func(i, at, keep int, x api.Command, bytes int) func(c *api.Catalog) {
		return func(c *api.Catalog) {
			c.Ledger.Held -= c.Ledger.Holds[i].Bytes
			c.Ledger.Holds = slices.Delete(c.Ledger.Holds, i, i+1)
			c.Ledger.Used += bytes
			c.Snaps = slices.Insert(c.Snaps, at, api.Snap{Space: x.Space, Name: x.Name, Bytes: bytes, Time: 100, Keep: keep, Pieces: x.Pieces})
		}
	}
	for _, y := range []struct {
		what     string
		x        api.Command
		i, at, n int
	}{
		{"all that is held", commit(0, 2, "new", 20, 30), 0, 1, 50},
		{"less than is held", commit(0, 2, "zzz", 1), 0, 2, 1},
		{"no pieces", commit(0, 2, "a"), 0, 0, 0},
		{"one byte less", commit(2, 5, name16, 59), 1, 0, 59},
		{"eight pieces", commit(2, 5, "new", 1, 2, 3, 4, 5, 6, 7, 8), 1, 1, 36},
	} {
		does(t, y.what, base(), y.x, api.Result{Bytes: y.n, Time: 100}, with(y.i, y.at, 107, y.x, y.n))
	}
	x := commit(0, 8, "held", 4)
	x.Space = "b"
	does(t, "a name of another namespace", base(), x, api.Result{Bytes: 4, Time: 100}, with(2, 2, 107, x, 4))
	for time, keep := range map[int]int{0: 100, late - 100: late, late - 99: late, late: late} {
		x := commit(0, 2, "new", 9)
		x.Time = time
		does(t, fmt.Sprintf("for %d", time), base(), x, api.Result{Bytes: 9, Time: 100}, with(0, 1, keep, x, 9))
	}
	x = commit(0, 2, "new", 9)
	x.Bytes = most // which does not count
	does(t, "other bytes", base(), x, api.Result{Bytes: 9, Time: 100}, with(0, 1, 107, x, 9))
}

// P24.2: what is no commit, the first error first.
func TestCommitRefused(t *testing.T) {
	for what, x := range map[string]api.Command{
		"no hold": commit(0, 3, "new", 9), "hold 0": commit(0, 0, "new", 9), "no hold, no name": commit(0, 3, "", 9),
		"another one's": commit(2, 2, "new", 9), "another one's, no name": commit(0, 5, "", 9), "of another namespace": commit(0, 8, "new", 9), "of another namespace, too much": commit(0, 8, "new", 99),
		"no hold, a name that is there": commit(0, 3, "old", 9),
	} {
		refused(t, what, base(), x, api.ErrNone)
	}
	refused(t, "expired", changed(func(c *api.Catalog) { c.Time = 100 }), commit(0, 2, "new", 9), api.ErrNone)
	refused(t, "no name", base(), commit(0, 2, "", 9), api.ErrArg)
	refused(t, "no name, too much", base(), commit(0, 2, "", 99), api.ErrArg)
	refused(t, "there already", base(), commit(0, 2, "old", 9), api.ErrExists)
	refused(t, "there already, too much", base(), commit(0, 2, "held", 51), api.ErrExists)
	refused(t, "too much", base(), commit(0, 2, "new", 51), api.ErrQuota)
	refused(t, "far too much", base(), commit(2, 5, "new", 256, 256), api.ErrQuota)
	full := changed(func(c *api.Catalog) {
		c.Snaps = nil
		for i := range 12 {
			c.Snaps = append(c.Snaps, api.Snap{Space: "a", Name: string(rune('b' + i))})
		}
	})
	refused(t, "a thirteenth one", full, commit(0, 2, "new", 9), api.ErrFull)
	refused(t, "a thirteenth one, too much", full, commit(0, 2, "new", 99), api.ErrFull)
	refused(t, "one of twelve", full, commit(0, 2, "b", 9), api.ErrExists)
	before := changed(func(c *api.Catalog) { c.Time = -9 })
	refused(t, "ahead of all time", before, commit(0, 2, "new", 9), api.ErrArg)
}

// P24.2: a snapshot goes, if it need not be kept.
func TestDelete(t *testing.T) {
	remove := func(space, name string) api.Command {
		return asks(api.OpDelete, func(x *api.Command) { x.Space, x.Name, x.Num, x.Bytes = space, name, 2, 999 })
	}
	old := func(c *api.Catalog) {
		c.Snaps = slices.Delete(c.Snaps, 1, 2)
		c.Ledger.Used = 292
	}
	does(t, "kept up to now", base(), remove("a", "old"), api.Result{Bytes: 8}, old)
	does(t, "of no pieces", base(), remove("b", "none"), api.Result{}, func(c *api.Catalog) { c.Snaps = c.Snaps[:2] })
	refused(t, "kept one longer", base(), remove("a", "held"), api.ErrHeld)
	does(t, "one later", changed(func(c *api.Catalog) { c.Time = 100 }), remove("a", "held"), api.Result{Bytes: 30}, func(c *api.Catalog) {
		c.Snaps, c.Ledger.Used = c.Snaps[1:], 270
	})
	refused(t, "kept one longer", changed(func(c *api.Catalog) { c.Time = 98 }), remove("a", "old"), api.ErrHeld)
	for _, name := range []string{"", "none", "ol", "olds"} {
		refused(t, "none of that name", base(), remove("a", name), api.ErrNone)
	}
	refused(t, "one of another namespace", base(), remove("b", "old"), api.ErrNone)
	does(t, "all that is used", changed(func(c *api.Catalog) { c.Ledger.Used = 8 }), remove("a", "old"), api.Result{Bytes: 8}, func(c *api.Catalog) {
		c.Snaps, c.Ledger.Used = slices.Delete(c.Snaps, 1, 2), 0
	})
	refused(t, "more than is used", changed(func(c *api.Catalog) { c.Ledger.Used = 7 }), remove("a", "old"), api.ErrArg)
}

// P24.2: another quota.
func TestQuota(t *testing.T) {
	quota := func(n int) api.Command {
		return asks(api.OpQuota, func(x *api.Command) { x.Bytes, x.Space, x.Num = n, "zz", 77 })
	}
	for _, n := range []int{450, 451, 1000, most} {
		does(t, fmt.Sprint(n), base(), quota(n), api.Result{}, func(c *api.Catalog) { c.Ledger.Quota = n })
	}
	for _, n := range []int{449, 1, 0} {
		refused(t, fmt.Sprint(n), base(), quota(n), api.ErrHeld)
	}
	does(t, "without what has expired", changed(func(c *api.Catalog) { c.Time = 100 }), quota(400), api.Result{}, func(c *api.Catalog) { c.Ledger.Quota = 400 })
}

// P24.2: ids that hold no more.
func TestRevoke(t *testing.T) {
	revoke := func(id int) api.Command { return asks(api.OpRevoke, func(x *api.Command) { x.Num = id }) }
	for id, ids := range map[int][]int{1: {1, 2, 4}, 3: {2, 3, 4}, 8: {2, 4, 8}, 2: {2, 4}, 4: {2, 4}} {
		does(t, fmt.Sprint(id), base(), revoke(id), api.Result{}, func(c *api.Catalog) { c.Revoked.IDs = ids })
	}
	for _, id := range []int{0, 9, 10, num} {
		refused(t, fmt.Sprint(id), base(), revoke(id), api.ErrArg)
	}
	full := changed(func(c *api.Catalog) {
		c.Revoked.Next, c.Revoked.IDs = 99, nil
		for i := range 16 {
			c.Revoked.IDs = append(c.Revoked.IDs, 2+i)
		}
	})
	refused(t, "a seventeenth one", full, revoke(50), api.ErrFull)
	refused(t, "a seventeenth one, not given out", full, revoke(99), api.ErrArg)
	does(t, "one of sixteen", full, revoke(17), api.Result{}, nil)
}

// P24.2: the next epoch, the next id, the next sweep.
func TestEpochMintSweep(t *testing.T) {
	does(t, "an epoch", base(), asks(api.OpEpoch, nil), api.Result{Num: 4}, func(c *api.Catalog) {
		c.Revoked.Epoch, c.Revoked.IDs = 4, nil
	})
	last := changed(func(c *api.Catalog) { c.Revoked.Epoch = num })
	of := func(x *api.Command) { x.Epoch = num }
	refused(t, "behind the last epoch", last, asks(api.OpEpoch, of), api.ErrFull)
	does(t, "an id of the last epoch", last, asks(api.OpMint, of), api.Result{Num: 9, Time: num}, func(c *api.Catalog) { c.Revoked.Next = 10 })
	does(t, "an id", base(), asks(api.OpMint, nil), api.Result{Num: 9, Time: 3}, func(c *api.Catalog) { c.Revoked.Next = 10 })
	does(t, "the last id", changed(func(c *api.Catalog) { c.Revoked.Next = num - 1 }), asks(api.OpMint, nil), api.Result{Num: num - 1, Time: 3}, func(c *api.Catalog) { c.Revoked.Next = num })
	refused(t, "behind the last id", changed(func(c *api.Catalog) { c.Revoked.Next = num }), asks(api.OpMint, nil), api.ErrFull)
	does(t, "a sweep", base(), asks(api.OpSweep, nil), api.Result{Time: 100}, func(c *api.Catalog) { c.Swept = 100 })
}

// P24.6: behind Revoke, and Epoch, what was held no more is refused.
func TestHoldsNoMore(t *testing.T) {
	c := base()
	mint := func(id, epoch int) api.Command {
		return asks(api.OpMint, func(x *api.Command) { x.ID, x.Epoch = id, epoch })
	}
	c = does(t, "revoke", c, asks(api.OpRevoke, func(x *api.Command) { x.Num = 5 }), api.Result{}, func(c *api.Catalog) { c.Revoked.IDs = []int{2, 4, 5} })
	refused(t, "the id that is revoked", c, mint(5, 3), api.ErrDenied)
	c = does(t, "its own id", c, asks(api.OpRevoke, func(x *api.Command) { x.Num = 1 }), api.Result{}, func(c *api.Catalog) { c.Revoked.IDs = []int{1, 2, 4, 5} })
	refused(t, "its own id", c, mint(1, 3), api.ErrDenied)
	refused(t, "its own id, another epoch", c, asks(api.OpEpoch, nil), api.ErrDenied)
	c = does(t, "an epoch", c, asks(api.OpEpoch, func(x *api.Command) { x.ID = 3 }), api.Result{Num: 4}, func(c *api.Catalog) {
		c.Revoked.Epoch, c.Revoked.IDs = 4, nil
	})
	for id := 1; id < 9; id++ {
		refused(t, "the epoch ahead", c, mint(id, 3), api.ErrDenied)
	}
	does(t, "the new epoch", c, mint(1, 4), api.Result{Num: 9, Time: 4}, func(c *api.Catalog) { c.Revoked.Next = 10 })
}

// P24.2: the chain has a link of each command that was done, alone.
func TestChain(t *testing.T) {
	c := changed(func(c *api.Catalog) { c.Chain.Length = 1<<62 - 1 })
	c = does(t, "the last length", c, asks(api.OpSweep, nil), api.Result{Time: 100}, func(c *api.Catalog) { c.Swept = 100 })
	c = does(t, "behind the last length", c, asks(api.OpSweep, nil), api.Result{Time: 101}, func(c *api.Catalog) { c.Swept = 101 })
	if c.Chain.Length != 1<<62 || !catalog.Check(c) {
		t.Error(line(c))
	}
	other, _ := catalog.Apply(base(), asks(api.OpSweep, func(x *api.Command) { x.Name = "a" })) // another command's bytes
	same, _ := catalog.Apply(base(), asks(api.OpSweep, nil))
	if other.Chain.Head == same.Chain.Head || other.Chain.Length != same.Chain.Length {
		t.Errorf("%s, %s", line(other), line(same))
	}
}

// P24.3: the first error of a read.
func TestQueryRefused(t *testing.T) {
	for _, kind := range []int{api.OpList, api.OpRestore, api.OpTotal} {
		for i, x := range wrongCommands(kind) {
			answers(t, fmt.Sprintf("kind %d, command %d", kind, i), base(), x, api.Result{Code: api.ErrArg})
		}
		for what, change := range map[string]func(x *api.Command){
			"revoked": func(x *api.Command) { x.ID = 4 }, "of another epoch": func(x *api.Command) { x.Epoch = 2 },
			"too late":  func(x *api.Command) { x.Caveats = []api.Caveat{{Kind: api.CvUntil, Num: 98}} },
			"no action": func(x *api.Command) { x.Caveats = []api.Caveat{{Kind: api.CvAction, Num: 255 - 8 - 16}} },
		} {
			answers(t, fmt.Sprintf("%s, kind %d", what, kind), base(), asks(kind, change), api.Result{Code: api.ErrDenied})
		}
	}
	for kind := api.OpSpace; kind <= api.OpShare; kind++ {
		for _, id := range []int{1, 2} {
			answers(t, fmt.Sprintf("kind %d of %d", kind, id), base(), asks(kind, func(x *api.Command) { x.ID, x.Space, x.Name = id, "a", "old" }), api.Result{Code: api.ErrArg})
		}
	}
	for _, kind := range []int{api.OpList, api.OpRestore} {
		read := func(client int, space, name string) api.Command {
			return asks(kind, func(x *api.Command) { x.Client, x.Space, x.Name = client, space, name })
		}
		for _, space := range []string{"", "c", "aa", "old"} {
			answers(t, fmt.Sprintf("kind %d in %q", kind, space), base(), read(0, space, "old"), api.Result{Code: api.ErrNone})
		}
		for _, client := range []int{2, 3, 7} { // 2 writes there
			answers(t, fmt.Sprintf("kind %d by %d", kind, client), base(), read(client, "a", "what"), api.Result{Code: api.ErrDenied})
		}
		answers(t, fmt.Sprintf("kind %d by who writes", kind), base(), read(0, "b", "none"), api.Result{Code: api.ErrDenied})
	}
}

// P24.3: what is told of reads, at the time as it stands.
func TestQuery(t *testing.T) {
	read := func(kind, client int, space, name string) api.Command {
		return asks(kind, func(x *api.Command) {
			x.Client, x.Space, x.Name, x.Num, x.Bytes, x.Time = client, space, name, 5, 6, 7
			x.Caveats = []api.Caveat{{Kind: api.CvUntil, Num: 99}}
		})
	}
	answers(t, "the names", base(), read(api.OpList, 0, "a", ""), api.Result{Names: []string{"held", "old"}})
	answers(t, "the names, by another one", base(), read(api.OpList, 1, "a", "x"), api.Result{Names: []string{"held", "old"}})
	answers(t, "the names in b", base(), read(api.OpList, 2, "b", ""), api.Result{Names: []string{"none"}})
	answers(t, "no names", changed(func(c *api.Catalog) { c.Snaps = nil }), read(api.OpList, 0, "a", ""), api.Result{})
	answers(t, "pieces", base(), read(api.OpRestore, 1, "a", "held"), api.Result{Bytes: 30, Time: 5, Pieces: pieces(10, 20)})
	answers(t, "one piece", base(), read(api.OpRestore, 0, "a", "old"), api.Result{Bytes: 8, Time: 6, Pieces: pieces(8)})
	answers(t, "no pieces", base(), read(api.OpRestore, 2, "b", "none"), api.Result{Time: 7})
	for _, name := range []string{"", "none", "ol", "olds", name16} {
		answers(t, "no snapshot", base(), read(api.OpRestore, 0, "a", name), api.Result{Code: api.ErrNone})
	}
	answers(t, "the total", base(), read(api.OpTotal, 7, "zz", "x"), api.Result{Num: 1000, Bytes: 450})
	answers(t, "the total of none", catalog.Start(most), asks(api.OpTotal, func(x *api.Command) { x.Epoch = 0 }), api.Result{Num: most})
	full := changed(func(c *api.Catalog) { c.Ledger = api.Ledger{Quota: most, Used: most, Next: 1} })
	answers(t, "the total of all", full, asks(api.OpTotal, nil), api.Result{Num: most, Bytes: most})
	late := changed(func(c *api.Catalog) { c.Time = 500 }) // what will expire has not yet
	answers(t, "the total of what has not expired", late, asks(api.OpTotal, nil), api.Result{Num: 1000, Bytes: 450})
}

// baseCode are the parts of base's bytes, a field each.
func baseCode() []string {
	return []string{
		"\x63", "\x02\x01a\x03\x05\x01b\x04\x01",
		"\x87\x68\x82\x2c\x81\x16\x09\x03\x02\x00\x32\x64\x0a\x01a\x05\x02\x3c\x82\x2c\x14\x01a\x08\x00\x28\x83\x10\x1e\x01b",
		"\x03\x01a\x04held\x1e\x05\x65\x02\x20" + sum('a') + "\x0a\x20" + sum('b') + "\x14\x01a\x03old\x08\x06\x64\x01\x20" + sum('a') + "\x08\x01b\x04none\x00\x07\x08\x00",
		"\x03\x09\x02\x02\x04", "\x07\x20" + sum('h'), "\x0c",
	}
}

// P24.4: the bytes, behind what is there.
func TestPut(t *testing.T) {
	start := "\x00\x00" + bigCode + "\x00\x00\x01\x00\x00\x00\x02\x00\x00\x20" + strings.Repeat("\x00", 32) + "\x00"
	for _, ahead := range []string{"", "x", "ahead"} {
		if b := catalog.Put([]byte(ahead), base()); string(b) != ahead+strings.Join(baseCode(), "") {
			t.Errorf("%x", b)
		}
		if b := catalog.Put([]byte(ahead), catalog.Start(most)); string(b) != ahead+start {
			t.Errorf("%x", b)
		}
	}
	if b := catalog.Put(nil, api.Catalog{Time: -1, Swept: least}); string(b) != strings.Repeat("\x00", 14) {
		t.Errorf("of one that may not be: %x", b)
	}
}

// P24.4: what was written is read, whatever stands behind.
func TestRead(t *testing.T) {
	for _, c := range goods() {
		for _, more := range []string{"", "\x00", "more"} {
			r := pack.Open(append(catalog.Put(nil, c), more...))
			if got := catalog.Read(r); !alike(got, c) || r.Err() != api.OK || r.Left() != len(more) {
				t.Errorf("%s: %s, %d, %d are left", line(c), line(got), r.Err(), r.Left())
			}
		}
	}
}

// fails looks whether Read of b answers nothing but that error.
func fails(t *testing.T, what string, b string, want api.Errno) {
	t.Helper()
	r := pack.Open([]byte(b))
	if c := catalog.Read(r); !alike(c, api.Catalog{}) || r.Err() != want || r.Left() != 0 {
		t.Errorf("%s: %s, %d, not %d", what, line(c), r.Err(), want)
	}
}

// P24.4: bytes that end too early, at each place.
func TestReadShort(t *testing.T) {
	for _, c := range goods() {
		b := string(catalog.Put(nil, c))
		for end := range b {
			fails(t, fmt.Sprintf("the first %d bytes of %s", end, line(c)), b[:end], api.ErrShort)
		}
	}
}

// wrongParts are, of each field (by its place), bytes that are not taken there.
func wrongParts() map[int]map[string]api.Errno {
	holds := strings.Repeat("\x01\x00\x00\x00\x00\x01a", 9)
	return map[int]map[string]api.Errno{
		0: {overCode: api.ErrLong, "\x80\x01": api.ErrForm},
		1: {"\x07": api.ErrLong, "\x01\x11" + name17 + "\x00\x00": api.ErrLong, "\x01\x01a\x82\x00\x00": api.ErrLong, "\x01\x01a\x00\x82\x00": api.ErrLong, "\x01\x01A\x00\x00": api.ErrForm, "\x02\x01b\x00\x00\x01a\x00\x00": api.ErrForm},
		2: {
			overCode + "\x00\x00\x01\x00": api.ErrLong, "\x05" + overCode + "\x00\x01\x00": api.ErrLong, "\x05\x06\x00\x01\x00": api.ErrForm, "\x05\x05\x00\x00\x00": api.ErrForm,
			"\x05\x00\x00" + "\x88\x80\x80\x80\x01" + "\x00": api.ErrLong, "\x05\x00\x00\x01\x09" + holds: api.ErrLong, "\x05\x00\x00\x02\x01\x01\x08\x00\x00\x00\x01a": api.ErrLong, "\x05\x00\x03\x02\x01\x01\x07\x02\x00\x00\x01a": api.ErrForm,
		},
		3: {"\x0d": api.ErrLong, "\x01\x01a\x11" + name17 + "\x00\x00\x00\x00": api.ErrLong, "\x01\x01a\x01b\x00" + overCode + "\x00\x00": api.ErrLong, "\x01\x01a\x01b\x01\x00\x00\x00": api.ErrForm, "\x01\x01a\x01b\x00\x00\x00\x09": api.ErrLong},
		4: {"\x88\x80\x80\x80\x01\x02\x00": api.ErrLong, "\x00\x01\x00": api.ErrForm, "\x00\x02\x11": api.ErrLong, "\x00\x05\x02\x02\x01": api.ErrForm, "\x00\x02\x01\x02": api.ErrForm},
		5: {linkCode + "\x01\x20" + sum('h'): api.ErrLong, "\x07\x21" + sum('h') + "h": api.ErrLong, "\x07\x1f" + sum('h')[1:]: api.ErrForm, "\x07\x00": api.ErrForm},
		6: {overCode: api.ErrLong, "\x80\x0c": api.ErrForm},
	}
}

// P24.4, R7: each part beyond its limit, and such that may not be; of two the
// first one's error.
func TestReadWrong(t *testing.T) {
	for at, parts := range wrongParts() {
		for part, want := range parts {
			code := baseCode()
			code[at] = part
			fails(t, fmt.Sprintf("field %d is %x", at, part), strings.Join(code, ""), want)
			fails(t, fmt.Sprintf("field %d is %x, and more", at, part), strings.Join(code, "")+"more", want)
			for behind := at + 1; behind < 7; behind++ {
				for other := range wrongParts()[behind] {
					code := baseCode()
					code[at], code[behind] = part, other
					fails(t, fmt.Sprintf("field %d is %x, field %d %x", at, part, behind, other), strings.Join(code, ""), want)
				}
			}
		}
	}
	for _, w := range wrongs() {
		fails(t, line(w.c), string(catalog.Put(nil, w.c)), w.e)
	}
}

// P24.4: a reader that has an error already, or that no call made.
func TestReadNone(t *testing.T) {
	r := pack.Open(catalog.Put(nil, base()))
	r.Fail(api.ErrSum)
	if c := catalog.Read(r); !alike(c, api.Catalog{}) || r.Err() != api.ErrSum {
		t.Errorf("%s, %d", line(c), r.Err())
	}
	for _, r := range []*pack.Reader{nil, {}} {
		if c := catalog.Read(r); !alike(c, api.Catalog{}) || r.Err() != api.ErrNil {
			t.Errorf("%s, %d", line(c), r.Err())
		}
	}
}

// P24.4: field by field, of catalogs that may not be, too.
func TestSame(t *testing.T) {
	if !catalog.Same(base(), base()) || !catalog.Same(api.Catalog{}, api.Catalog{}) || !catalog.Same(api.Catalog{Time: least}, api.Catalog{Time: least}) {
		t.Error("the same are not")
	}
	empty := api.Catalog{Spaces: []api.Space{}, Ledger: api.Ledger{Holds: []api.Hold{}}, Snaps: []api.Snap{}, Revoked: api.Revoked{IDs: []int{}}}
	if !catalog.Same(api.Catalog{}, empty) || !catalog.Same(empty, api.Catalog{}) {
		t.Error("nil lists and empty ones are not the same")
	}
	for i, change := range []func(c *api.Catalog){
		func(c *api.Catalog) { c.Time++ }, func(c *api.Catalog) { c.Swept++ }, func(c *api.Catalog) { c.Time, c.Swept = c.Swept, c.Time },
		func(c *api.Catalog) { c.Spaces = nil }, func(c *api.Catalog) { c.Spaces[1].Name = "c" }, func(c *api.Catalog) { c.Spaces[0].Readers++ }, func(c *api.Catalog) { c.Spaces[1].Writers++ },
		func(c *api.Catalog) { c.Ledger.Quota++ }, func(c *api.Catalog) { c.Ledger.Used++ }, func(c *api.Catalog) { c.Ledger.Held++ }, func(c *api.Catalog) { c.Ledger.Next++ },
		func(c *api.Catalog) { c.Ledger.Holds = c.Ledger.Holds[1:] }, func(c *api.Catalog) { c.Ledger.Holds[2].Until++ },
		func(c *api.Catalog) { c.Snaps = c.Snaps[:2] }, func(c *api.Catalog) { c.Snaps[0].Keep++ }, func(c *api.Catalog) { c.Snaps[1].Pieces[0].Size++ }, func(c *api.Catalog) { c.Snaps[2].Pieces = pieces(1) },
		func(c *api.Catalog) { c.Revoked.Epoch++ }, func(c *api.Catalog) { c.Revoked.Next++ }, func(c *api.Catalog) { c.Revoked.IDs = c.Revoked.IDs[:1] }, func(c *api.Catalog) { c.Revoked.IDs[0]-- },
		func(c *api.Catalog) { c.Chain.Length++ }, func(c *api.Catalog) { c.Chain.Head = sum('i') },
	} {
		c := base()
		change(&c)
		if catalog.Same(base(), c) || catalog.Same(c, base()) {
			t.Errorf("change %d: the same", i)
		}
	}
}

// roomy is c with room behind each of its lists.
func roomy(c api.Catalog) api.Catalog {
	c.Spaces = append(make([]api.Space, 0, 20), c.Spaces...)
	c.Ledger.Holds = append(make([]api.Hold, 0, 20), c.Ledger.Holds...)
	c.Snaps = append(make([]api.Snap, 0, 20), c.Snaps...)
	for i := range c.Snaps {
		c.Snaps[i].Pieces = append(make([]api.Piece, 0, 20), c.Snaps[i].Pieces...)
	}
	c.Revoked.IDs = append(make([]int, 0, 20), c.Revoked.IDs...)
	return c
}

// spoil writes over all that c's lists have, and over the room behind them.
func spoil(c api.Catalog) {
	for _, s := range c.Snaps {
		clear(s.Pieces[:cap(s.Pieces)])
	}
	clear(c.Spaces[:cap(c.Spaces)])
	clear(c.Ledger.Holds[:cap(c.Ledger.Holds)])
	clear(c.Snaps[:cap(c.Snaps)])
	clear(c.Revoked.IDs[:cap(c.Revoked.IDs)])
}

// several are commands of all kinds, that are done and that are not.
func several() []api.Command {
	l := []api.Command{{}, asks(api.OpShare, nil), asks(api.OpMint, func(x *api.Command) { x.ID = 2 }), commit(0, 2, "new", 20, 30), commit(0, 2, "new", 51), commit(0, 2, "old", 1)}
	for kind := api.OpSpace; kind <= api.OpTotal; kind++ {
		l = append(l, asks(kind, func(x *api.Command) {
			x.Space, x.Name, x.Num, x.Bytes, x.Time, x.Pieces = "a", "old", 2, 5, 6, pieces(7)
		}))
		l = append(l, asks(kind, func(x *api.Command) { x.Space, x.Name, x.Num, x.Bytes = "b", "held", 5, 800 }))
	}
	return l
}

// Rule R3: Apply and Query change nothing that is handed in, and keep none of
// it; what they answer is the caller's own.
func TestNothingShared(t *testing.T) {
	for i, x := range several() {
		c, was := roomy(base()), x
		was.Pieces = slices.Clone(x.Pieces)
		got, r := catalog.Apply(c, x)
		again, s := catalog.Apply(c, x)
		read, same := catalog.Query(c, x), catalog.Query(c, x)
		if !alike(c, base()) || !command.Same(x, was) || !alike(got, again) || told(r) != told(s) || told(read) != told(same) {
			t.Fatalf("command %d: it was changed: %s", i, line(c))
		}
		if spare := c.Spaces[:3][2]; spare != (api.Space{}) || c.Ledger.Holds[:4][3] != (api.Hold{}) || len(c.Snaps[:4][3].Name) != 0 || c.Revoked.IDs[:3][2] != 0 {
			t.Errorf("command %d: the room behind it was changed", i)
		}
		kept, keptRead := line(got), told(read)
		spoil(again)
		clear(same.Pieces[:cap(same.Pieces)])
		clear(same.Names[:cap(same.Names)])
		if !alike(c, base()) || line(got) != kept {
			t.Errorf("command %d: what is answered is shared", i)
		}
		spoil(c)
		clear(x.Pieces)
		if line(got) != kept || told(read) != keptRead {
			t.Errorf("command %d: what is handed in is kept", i)
		}
	}
}

// Rule R3: of one answer no two lists share any memory.
func TestListsApart(t *testing.T) {
	for i, x := range several() {
		got, _ := catalog.Apply(base(), x)
		for j := range got.Snaps {
			one := copied(got)
			c, _ := catalog.Apply(base(), x)
			clear(c.Snaps[j].Pieces[:cap(c.Snaps[j].Pieces)])
			clear(one.Snaps[j].Pieces)
			if !alike(c, one) {
				t.Errorf("command %d: the pieces of %d are shared", i, j)
			}
		}
	}
}

// Rule R3: of Start, Put and Read, too.
func TestBytesShared(t *testing.T) {
	one, other := catalog.Start(5), catalog.Start(5)
	spoil(one)
	if !alike(other, catalog.Start(5)) {
		t.Error("Start's are shared")
	}
	b := append(make([]byte, 0, 999), "ahead"...)
	first, second := catalog.Put(b, base()), catalog.Put(b, catalog.Start(5))
	if string(b[:999]) != "ahead"+string(make([]byte, 994)) || string(first) != "ahead"+strings.Join(baseCode(), "") {
		t.Error("Put's bytes are shared")
	}
	clear(second[:cap(second)])
	if string(b) != "ahead" {
		t.Error("Put's bytes are shared")
	}
	x, y := catalog.Read(pack.Open(first[5:])), catalog.Read(pack.Open(first[5:]))
	clear(first)
	spoil(x)
	if !alike(y, base()) {
		t.Error("Read's are shared")
	}
}

// The chapter's example.
func TestExample(t *testing.T) {
	c, _ := catalog.Apply(catalog.Start(10), api.Command{Seq: 1, Kind: api.OpSpace, ID: 1, Name: "a", Bytes: 1})
	if _, r := catalog.Apply(c, api.Command{Seq: 2, Kind: api.OpReserve, ID: 1, Space: "a", Bytes: 11}); r.Code != api.ErrQuota {
		t.Error(r)
	}
}

// P24.4: any bytes: what is taken may be, and has just those bytes.
func FuzzRead(f *testing.F) {
	for _, c := range goods() {
		f.Add(catalog.Put(nil, c))
	}
	for _, w := range wrongs() {
		f.Add(catalog.Put(nil, w.c))
	}
	f.Fuzz(func(t *testing.T, b []byte) {
		r := pack.Open(b)
		c := catalog.Read(r)
		if r.Err() != api.OK {
			if !alike(c, api.Catalog{}) || r.Err() != api.ErrShort && r.Err() != api.ErrForm && r.Err() != api.ErrLong {
				t.Errorf("%x: %s, %d", b, line(c), r.Err())
			}
			return
		}
		if taken := b[:len(b)-r.Left()]; !catalog.Check(c) || string(catalog.Put(nil, c)) != string(taken) {
			t.Errorf("%x: %s", b, line(c))
		}
	})
}
