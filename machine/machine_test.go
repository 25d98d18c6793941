package machine_test

import (
	"bytes"
	"fmt"
	"math"
	"slices"
	"strings"
	"testing"

	"bailey/api"
	"bailey/catalog"
	"bailey/command"
	"bailey/machine"
)

const (
	least    = math.MinInt
	greatest = math.MaxInt
	num      = api.MaxNum
	most     = api.MaxBytes // and MaxTime
	name16   = "abcdefghij_-0189"
	name17   = name16 + "z"
	numCode  = "\x88\x80\x80\x80\x00"     // 2^31
	numOver  = "\x88\x80\x80\x80\x01"     // one more
	bigCode  = "\xa0\x80\x80\x80\x80\x00" // 2^40
	bigOver  = "\xa0\x80\x80\x80\x80\x01" // one more
)

// sum is 32 bytes, of which the first one tells them apart.
func sum(first byte) string { return string([]byte{first}) + strings.Repeat("\xfe", 31) }

// pieces are such of these sizes, with the sums a, b and so on.
func pieces(sizes ...int) []api.Piece {
	var l []api.Piece
	for i, n := range sizes {
		l = append(l, api.Piece{Sum: sum(byte('a' + i)), Size: n})
	}
	return l
}

// base is a machine of the lane that has something of everything: clients 0 and
// 1 read a, 0 and 2 write it; 2 reads b, 0 writes it; 1 and 5 have asked.
func base(lane int) api.Machine {
	return api.Machine{
		Lane: lane, Index: 50,
		Catalog: api.Catalog{
			Time:   99,
			Spaces: []api.Space{{Name: "a", Readers: 3, Writers: 5}, {Name: "b", Readers: 4, Writers: 1}},
			Ledger: api.Ledger{Quota: 1000, Used: 300, Held: 110, Next: 9, Holds: []api.Hold{
				{ID: 5, Client: 2, Bytes: 60, Until: 300, Time: 20, Space: "a"},
				{ID: 8, Client: 0, Bytes: 50, Until: 400, Time: 30, Space: "a"},
			}},
			Snaps: []api.Snap{
				{Space: "a", Name: "held", Bytes: 30, Time: 5, Keep: 101, Pieces: pieces(10, 20)},
				{Space: "a", Name: "old", Bytes: 8, Time: 6, Keep: 100, Pieces: pieces(8)},
			},
			Revoked: api.Revoked{Epoch: 3, Next: 9, IDs: []int{2, 4}},
			Chain:   api.Chain{Length: 7, Head: sum('h')},
			Swept:   12,
		},
		Board: api.Board{Capacity: 100, Shares: []api.Share{{Lane: 2, Bytes: 50}, {Lane: 4, Bytes: 10}}},
		Sessions: []api.Session{
			{Client: 1, Seq: 20, Reply: []byte("reply of one")},
			{Client: 5, Seq: 30, Reply: []byte("reply of five")},
		},
	}
}

// changed is the base of the lane, changed.
func changed(lane int, change func(m *api.Machine)) api.Machine {
	m := base(lane)
	change(&m)
	return m
}

// asks is a command of the kind with the token 1, of the client 0.
func asks(kind int, change func(x *api.Command)) api.Command {
	x := api.Command{Seq: 1, Kind: kind, ID: 1, Epoch: 3}
	if change != nil {
		change(&x)
	}
	return x
}

// copied is m in memory of its own.
func copied(m api.Machine) api.Machine {
	c := &m.Catalog
	c.Spaces, c.Ledger.Holds, c.Revoked.IDs = slices.Clone(c.Spaces), slices.Clone(c.Ledger.Holds), slices.Clone(c.Revoked.IDs)
	c.Snaps, m.Board.Shares, m.Sessions = slices.Clone(c.Snaps), slices.Clone(m.Board.Shares), slices.Clone(m.Sessions)
	for i := range c.Snaps {
		c.Snaps[i].Pieces = slices.Clone(c.Snaps[i].Pieces)
	}
	for i := range m.Sessions {
		m.Sessions[i].Reply = bytes.Clone(m.Sessions[i].Reply)
	}
	return m
}

// line is m as a text, without the package's own Same and Encode; nil lists
// are as empty ones.
func line(m api.Machine) string { return fmt.Sprintf("%+q", fmt.Sprint(m)) }

func alike(a, b api.Machine) bool { return line(a) == line(b) }

// told is r as a text, likewise.
func told(r api.Result) string { return fmt.Sprintf("%+q", fmt.Sprint(r)) }

// entry is the next one behind m, of the command.
func entry(t *testing.T, m api.Machine, x api.Command) api.Entry {
	t.Helper()
	b, e := command.Encode(x)
	if e != api.OK {
		t.Fatalf("%+v: %d", x, e)
	}
	return api.Entry{Index: m.Index + 1, Term: 4, Kind: api.EnCommand, Data: b}
}

// bytesOf are those of a reply.
func bytesOf(t *testing.T, r api.Result) []byte {
	t.Helper()
	b, e := machine.Reply(r)
	if e != api.OK {
		t.Fatalf("%+v: %d", r, e)
	}
	return b
}

// session is the client's one in m, or one of Seq 0.
func session(m api.Machine, client int) api.Session {
	for _, s := range m.Sessions {
		if s.Client == client {
			return s
		}
	}
	return api.Session{Client: client}
}

// apply is Apply of x, whose answer has to be x's, behind its entry, and m as it was.
func apply(t *testing.T, what string, m api.Machine, x api.Command) (api.Machine, []byte) {
	t.Helper()
	kept := copied(m)
	got, a, ok := machine.Apply(m, entry(t, m, x))
	if !ok || a.ID != 0 || a.Read || a.Client != x.Client || a.Seq != x.Seq || a.Index != m.Index+1 {
		t.Errorf("%s: answered %+v, %v", what, a, ok)
	}
	if !alike(m, kept) {
		t.Errorf("%s: it was changed: %s", what, line(m))
	}
	if machine.Check(m) && !machine.Check(got) {
		t.Errorf("%s: it may not be: %s", what, line(got))
	}
	return got, a.Bytes
}

// does looks whether x is done in m: just that is told, of x's kind, and just
// the session and what change says have changed.
func does(t *testing.T, what string, m api.Machine, x api.Command, r api.Result, change func(m *api.Machine)) api.Machine {
	t.Helper()
	got, b := apply(t, what, m, x)
	r.Kind = x.Kind
	if !bytes.Equal(b, bytesOf(t, r)) {
		answer, e := machine.ReadReply(b)
		t.Errorf("%s: told %s, %d, not %s", what, told(answer), e, told(r))
	}
	want := copied(m)
	want.Index++
	if change != nil {
		change(&want)
	}
	want.Sessions = slices.DeleteFunc(want.Sessions, func(s api.Session) bool { return s.Client == x.Client })
	want.Sessions = append(want.Sessions, api.Session{Client: x.Client, Seq: x.Seq, Reply: bytesOf(t, r)})
	slices.SortFunc(want.Sessions, func(a, b api.Session) int { return a.Client - b.Client })
	if !alike(got, want) {
		t.Errorf("%s:\n%s, not\n%s", what, line(got), line(want))
	}
	return got
}

// tells looks whether x is told that, and nothing but the Index changes.
func tells(t *testing.T, what string, m api.Machine, x api.Command, reply []byte) api.Machine {
	t.Helper()
	got, b := apply(t, what, m, x)
	want := copied(m)
	want.Index++
	if !bytes.Equal(b, reply) || !alike(got, want) {
		t.Errorf("%s: told %x, not %x:\n%s, not\n%s", what, b, reply, line(got), line(want))
	}
	return got
}

// P26.1: what there is ahead of all.
func TestStart(t *testing.T) {
	for lane, held := range map[int]int{least: 0, -1: 0, 0: 0, 1: 1, 2: 2, 3: 3, 4: 4, 5: 0, greatest: 0} {
		for amount, n := range map[int]int{least: 0, -1: 0, 0: 0, 1: 1, 10: 10, most: most, most + 1: most, greatest: most} {
			m := machine.Start(lane, amount)
			want := api.Machine{
				Lane: held,
				Catalog: api.Catalog{
					Ledger: api.Ledger{Quota: n, Next: 1}, Revoked: api.Revoked{Next: 2}, Chain: api.Chain{Head: strings.Repeat("\x00", 32)},
				},
				Board: api.Board{Capacity: n},
			}
			if !alike(m, want) || !machine.Check(m) {
				t.Errorf("%d, %d: %s", lane, amount, line(m))
			}
		}
	}
}

// sessions are such of these clients.
func sessions(clients ...int) []api.Session {
	var l []api.Session
	for _, c := range clients {
		l = append(l, api.Session{Client: c, Seq: c + 100, Reply: []byte{byte('0' + c%10)}})
	}
	return l
}

// with is a change of the sessions.
func with(clients ...int) func(m *api.Machine) {
	return func(m *api.Machine) { m.Sessions = sessions(clients...) }
}

// goods are machines that may be.
func goods() []api.Machine {
	l := []api.Machine{
		machine.Start(0, 0), machine.Start(4, most), machine.Start(1, 10),
		changed(0, func(m *api.Machine) { m.Index = 0 }), changed(0, func(m *api.Machine) { m.Index = num }), changed(0, func(m *api.Machine) { m.Index = num - 1 }),
		changed(1, func(m *api.Machine) { m.Board = api.Board{} }), changed(3, func(m *api.Machine) { m.Catalog = catalog.Start(0) }),
		changed(2, with()), changed(2, func(m *api.Machine) { m.Sessions = []api.Session{} }),
		changed(2, with(0)), changed(2, with(7)), changed(2, with(0, 7)), changed(2, with(3, 4)), changed(2, with(0, 1, 2, 3, 4, 5, 6, 7)),
	}
	for lane := range 5 {
		l = append(l, base(lane))
	}
	for _, n := range []int{1, 2, num - 1, num} {
		l = append(l, changed(0, func(m *api.Machine) { m.Sessions[1].Seq = n }))
	}
	for _, n := range []int{1, 2, 300, 4095, 4096} {
		l = append(l, changed(0, func(m *api.Machine) { m.Sessions[0].Reply = bytes.Repeat([]byte{0xff}, n) }))
	}
	return l
}

// wrong is a machine that may not be, and what Decode says of its bytes.
type wrong struct {
	m api.Machine
	e api.Errno
}

// wrongs are machines of which one thing may not be.
func wrongs() []wrong {
	l := []wrong{{api.Machine{}, api.ErrForm}}
	add := func(e api.Errno, change func(m *api.Machine)) { l = append(l, wrong{changed(2, change), e}) }
	for _, n := range []int{5, 6, greatest} {
		add(api.ErrLong, func(m *api.Machine) { m.Lane = n })
	}
	for _, n := range []int{num + 1, greatest} {
		add(api.ErrLong, func(m *api.Machine) { m.Index = n })
		add(api.ErrLong, func(m *api.Machine) { m.Sessions[0].Seq = n })
	}
	add(api.ErrLong, func(m *api.Machine) { m.Catalog.Time = most + 1 })
	add(api.ErrForm, func(m *api.Machine) { m.Catalog.Spaces[0].Name = "A" })
	add(api.ErrForm, func(m *api.Machine) { m.Catalog.Ledger.Held++ })
	add(api.ErrForm, func(m *api.Machine) { m.Catalog.Snaps[0].Bytes++ })
	add(api.ErrForm, func(m *api.Machine) { m.Catalog.Revoked.Next = 4 })
	add(api.ErrForm, func(m *api.Machine) { m.Catalog.Chain.Head = "" })
	add(api.ErrForm, func(m *api.Machine) { m.Catalog = api.Catalog{} })
	add(api.ErrLong, func(m *api.Machine) { m.Catalog.Swept = most + 1 })
	add(api.ErrLong, func(m *api.Machine) { m.Board.Capacity = most + 1 })
	add(api.ErrForm, func(m *api.Machine) { m.Board.Capacity = 59 })
	add(api.ErrForm, func(m *api.Machine) { slices.Reverse(m.Board.Shares) })
	add(api.ErrForm, func(m *api.Machine) { m.Board.Shares[0].Lane = 0 })
	add(api.ErrLong, func(m *api.Machine) { m.Board.Shares[1].Lane = 5 })
	add(api.ErrForm, func(m *api.Machine) { m.Board.Shares[1].Bytes = 0 })
	add(api.ErrLong, with(0, 1, 2, 3, 4, 5, 6, 7, 7))
	add(api.ErrLong, with(0, 1, 2, 3, 4, 5, 6, 7, 8))
	add(api.ErrLong, func(m *api.Machine) { m.Sessions = make([]api.Session, 1000) })
	for _, c := range []int{8, 9, greatest} {
		add(api.ErrLong, with(c))
		add(api.ErrLong, with(1, c))
	}
	add(api.ErrForm, with(1, 1))
	add(api.ErrForm, with(2, 1))
	add(api.ErrForm, with(1, 3, 3))
	add(api.ErrForm, with(1, 3, 2))
	add(api.ErrForm, func(m *api.Machine) { m.Sessions[0].Seq = 0 })
	add(api.ErrForm, func(m *api.Machine) { m.Sessions[1].Seq = 0 })
	add(api.ErrForm, func(m *api.Machine) { m.Sessions[0].Reply = nil })
	add(api.ErrForm, func(m *api.Machine) { m.Sessions[1].Reply = []byte{} })
	add(api.ErrLong, func(m *api.Machine) { m.Sessions[0].Reply = make([]byte, 4097) })
	add(api.ErrLong, func(m *api.Machine) { m.Sessions[1].Reply = make([]byte, 50000) })
	return l
}

// below are machines of which one number is below 0, whose bytes are those of 0.
func below() []api.Machine {
	var l []api.Machine
	for _, n := range []int{-1, least} {
		l = append(l,
			changed(2, func(m *api.Machine) { m.Lane = n }), changed(2, func(m *api.Machine) { m.Index = n }),
			changed(2, func(m *api.Machine) { m.Catalog.Time = n }), changed(2, func(m *api.Machine) { m.Board = api.Board{Capacity: n} }),
			changed(2, func(m *api.Machine) { m.Sessions[0].Client = n }), changed(2, func(m *api.Machine) { m.Sessions[1].Seq = n }),
		)
	}
	return l
}

// P26.1: which may be.
func TestCheck(t *testing.T) {
	for _, m := range goods() {
		if !machine.Check(m) {
			t.Errorf("%s", line(m))
		}
	}
	for _, w := range wrongs() {
		if machine.Check(w.m) {
			t.Errorf("%s", line(w.m))
		}
	}
	for _, m := range below() {
		if machine.Check(m) {
			t.Errorf("%s", line(m))
		}
	}
}

// P26.2: an entry that is not the next one is none: m stays as it is.
func TestApplyIndex(t *testing.T) {
	for _, x := range []struct{ at, index int }{
		{50, 50}, {50, 52}, {50, 49}, {50, 0}, {50, -1}, {50, 53}, {50, num}, {50, least}, {50, greatest}, {50, 51 - 1<<32}, {50, 51 + 1<<32},
		{0, 0}, {0, 2}, {0, -1}, {num - 1, num - 1}, {num - 1, num + 1}, {num, num}, {num, num + 1}, {num, num + 2}, {num, 0}, {num, 1},
		{num + 1, num + 2}, {greatest, greatest}, {greatest, least}, {greatest - 1, greatest}, {greatest, 0}, {-1, 1}, {-1, -1}, {least, greatest}, {least, least},
	} {
		for lane := range 5 {
			m := changed(lane, func(m *api.Machine) { m.Index = x.at })
			for kind := range 4 {
				e := entry(t, m, asks(api.OpMint, nil))
				e.Index, e.Kind = x.index, kind
				if got, a, ok := machine.Apply(m, e); ok || !alike(got, m) || !alike(m, changed(lane, func(m *api.Machine) { m.Index = x.at })) || fmt.Sprint(a) != fmt.Sprint(api.Answer{}) {
					t.Errorf("%d behind %d: %v, %+v, %s", x.index, x.at, ok, a, line(got))
				}
			}
		}
	}
}

// P26.2: the next one is taken, up to the last one that may be, and of an Index
// below 0, too.
func TestApplyNext(t *testing.T) {
	for _, index := range []int{0, 1, 50, num - 2, num - 1, -1, -2, least} {
		for lane := range 5 {
			m := changed(lane, func(m *api.Machine) { m.Index = index })
			does(t, fmt.Sprintf("behind %d", index), m, asks(api.OpMint, nil), api.Result{Num: 9, Time: 3}, func(m *api.Machine) { m.Catalog = mintedAt(lane) })
		}
	}
}

// mintedAt is the base's catalog behind OpMint of asks.
func mintedAt(lane int) api.Catalog {
	c, _ := catalog.Apply(base(lane).Catalog, asks(api.OpMint, nil))
	return c
}

// passes looks whether the entry changes nothing but the Index.
func passes(t *testing.T, what string, m api.Machine, e api.Entry) {
	t.Helper()
	kept := copied(m)
	got, a, ok := machine.Apply(m, e)
	want := copied(m)
	want.Index++
	if ok || fmt.Sprint(a) != fmt.Sprint(api.Answer{}) || !alike(got, want) || !alike(m, kept) {
		t.Errorf("%s: %v, %+v, %s", what, ok, a, line(got))
	}
}

// P26.2: entries of other kinds, and Data that no command is, pass by.
func TestApplyNoCommand(t *testing.T) {
	code := entry(t, base(1), asks(api.OpMint, nil)).Data
	for lane := range 5 {
		m := base(lane)
		for _, kind := range []int{api.EnNothing, api.EnConf, 3, -1, least, greatest} {
			passes(t, fmt.Sprintf("kind %d", kind), m, api.Entry{Index: 51, Term: 1, Kind: kind, Data: code})
			passes(t, fmt.Sprintf("kind %d", kind), m, api.Entry{Index: 51, Kind: kind})
		}
		datas := [][]byte{nil, {}, []byte("no command"), append(bytes.Clone(code), 0), append(bytes.Clone(code), code...), make([]byte, 4097)}
		for end := range code {
			datas = append(datas, code[:end])
		}
		for at, part := range map[int]string{0: "\x08", 1: "\x00", 2: "\x00", 3: "\x00", 4: numOver, 5: "\x01\x00", 6: "\x01A", 7: "\x11" + name17, 8: numOver, 9: bigOver, 10: bigOver, 11: "\x01\x00\x01"} {
			datas = append(datas, slices.Concat(code[:at], []byte(part), code[at+1:]))
		}
		for _, kind := range []byte{15, 16, 17, 18} {
			datas = append(datas, slices.Concat(code[:2], []byte{kind}, code[3:]))
		}
		for i, b := range datas {
			passes(t, fmt.Sprintf("data %d, %x", i, b), m, api.Entry{Index: 51, Term: 1, Kind: api.EnCommand, Data: b})
		}
	}
}

// P26.2: the term of an entry says nothing.
func TestApplyTerm(t *testing.T) {
	want, wantAnswer, _ := machine.Apply(base(1), entry(t, base(1), asks(api.OpMint, nil)))
	for _, term := range []int{least, -1, 0, 9, num, greatest} {
		e := entry(t, base(1), asks(api.OpMint, nil))
		e.Term = term
		if m, a, ok := machine.Apply(base(1), e); !ok || !alike(m, want) || fmt.Sprint(a) != fmt.Sprint(wantAnswer) {
			t.Errorf("%d: %s", term, line(m))
		}
	}
}

// P26.2, P26.6: a client's number that is new is done, that is the same is told
// the same, that has gone by is old; whoever has no session begins with any.
func TestApplySeq(t *testing.T) {
	old := bytesOf(t, api.Result{Code: api.ErrOld})
	for lane := range 5 {
		for _, c := range []struct{ client, seq int }{{1, 20}, {5, 30}} {
			mint := func(seq int) api.Command {
				return asks(api.OpMint, func(x *api.Command) { x.Client, x.Seq = c.client, seq })
			}
			what := fmt.Sprintf("lane %d, client %d", lane, c.client)
			tells(t, what+", the same", base(lane), mint(c.seq), session(base(lane), c.client).Reply)
			for _, seq := range []int{1, 2, c.seq - 1} {
				tells(t, what+", gone by", base(lane), mint(seq), old)
			}
			for _, seq := range []int{c.seq + 1, c.seq + 2, 77, num - 1, num} {
				x := mint(seq)
				does(t, what+", new", base(lane), x, api.Result{Num: 9, Time: 3}, func(m *api.Machine) { m.Catalog, _ = catalog.Apply(m.Catalog, x) })
			}
		}
		for _, client := range []int{0, 2, 3, 4, 6, 7} {
			for _, seq := range []int{1, 2, 19, 20, 30, num} {
				x := asks(api.OpMint, func(x *api.Command) { x.Client, x.Seq = client, seq })
				does(t, fmt.Sprintf("lane %d, client %d, the first", lane, client), base(lane), x, api.Result{Num: 9, Time: 3}, func(m *api.Machine) { m.Catalog, _ = catalog.Apply(m.Catalog, x) })
			}
		}
	}
}

// P26.2: what is old, or the same, is so ahead of all that x is.
func TestApplySeqFirst(t *testing.T) {
	old := bytesOf(t, api.Result{Code: api.ErrOld})
	for lane := range 5 {
		for kind := 1; kind <= 14; kind++ {
			for what, change := range map[string]func(x *api.Command){
				"as it may be": nil, "a token that does not hold": func(x *api.Command) { x.ID = 2 }, "another epoch": func(x *api.Command) { x.Epoch = 9 },
				"no namespace": func(x *api.Command) { x.Space = "zz" }, "a caveat that does not hold": func(x *api.Command) { x.Caveats = []api.Caveat{{Kind: api.CvAction}} },
				"what may be": func(x *api.Command) { x.Space, x.Name, x.Num, x.Bytes = "a", "new", 3, 5 },
			} {
				x := asks(kind, change)
				x.Client, x.Seq = 5, 30
				tells(t, fmt.Sprintf("kind %d, %s, the same", kind, what), base(lane), x, []byte("reply of five"))
				x.Seq = 29
				tells(t, fmt.Sprintf("kind %d, %s, gone by", kind, what), base(lane), x, old)
			}
		}
	}
}

// P26.6: a command once, twice, and again behind another client's, with other
// bytes and the same Seq; then it is told the same, though it would not be now.
func TestOnce(t *testing.T) {
	for lane := range 5 {
		m := base(lane)
		mint := asks(api.OpMint, func(x *api.Command) { x.Client, x.Seq = 3, 7 })
		m = does(t, "once", m, mint, api.Result{Num: 9, Time: 3}, func(m *api.Machine) { m.Catalog, _ = catalog.Apply(m.Catalog, mint) })
		reply := session(m, 3).Reply
		m = tells(t, "twice", m, mint, reply)
		m = tells(t, "thrice", m, mint, reply)
		other := asks(api.OpEpoch, func(x *api.Command) { x.Client, x.Seq = 4, 7 })
		m = does(t, "another client's", m, other, api.Result{Num: 4}, func(m *api.Machine) { m.Catalog, _ = catalog.Apply(m.Catalog, other) })
		m = tells(t, "again", m, mint, reply)
		for kind := 1; kind <= 14; kind++ {
			x := asks(kind, func(x *api.Command) { x.Client, x.Seq, x.Space, x.Num, x.Pieces = 3, 7, "a", 5, pieces(4) })
			m = tells(t, fmt.Sprintf("with other bytes, kind %d", kind), m, x, reply)
		}
		mint.Seq = 6
		m = tells(t, "the one ahead", m, mint, bytesOf(t, api.Result{Code: api.ErrOld}))
		mint.Seq = 8
		m = does(t, "the next one, of an epoch ago", m, mint, api.Result{Code: api.ErrDenied}, func(m *api.Machine) { m.Catalog, _ = catalog.Apply(m.Catalog, mint) })
		mint.Epoch = 4
		tells(t, "what was refused, with a token that holds", m, mint, bytesOf(t, api.Result{Kind: api.OpMint, Code: api.ErrDenied}))
	}
}

// P26.2: of a machine that may not be, too: a client has one session behind it.
func TestApplyWild(t *testing.T) {
	x := asks(api.OpMint, func(x *api.Command) { x.Client, x.Seq = 5, 31 })
	twice := changed(1, func(m *api.Machine) { m.Sessions = append(m.Sessions, m.Sessions...) })
	if m, b := apply(t, "twice the same", twice, x); len(b) == 0 || len(m.Sessions) != 3 || session(m, 5).Seq != 31 {
		t.Errorf("%s", line(m))
	}
	for _, lane := range []int{-1, 5, least, greatest} { // lanes other than 0
		share := asks(api.OpShare, func(x *api.Command) { x.Num, x.Bytes = 1, 4 })
		m := changed(lane, func(m *api.Machine) {})
		does(t, fmt.Sprintf("lane %d", lane), m, share, api.Result{Code: api.ErrArg}, func(m *api.Machine) { m.Catalog, _ = catalog.Apply(m.Catalog, share) })
	}
	all := below()
	for _, w := range wrongs() {
		all = append(all, w.m)
	}
	for i, m := range all {
		for kind := 1; kind <= 14; kind++ {
			if m.Index < num {
				apply(t, fmt.Sprintf("wrong %d, kind %d", i, kind), m, asks(kind, func(x *api.Command) { x.Seq = num }))
			}
			machine.Query(m, asks(kind, nil))
		}
	}
	// No id was given out there, so that no token holds.
	denied := api.Result{Code: api.ErrDenied}
	does(t, "no machine", api.Machine{}, asks(api.OpMint, func(x *api.Command) { x.Epoch = 0 }), denied, func(m *api.Machine) { m.Catalog.Time = 1 })
}
