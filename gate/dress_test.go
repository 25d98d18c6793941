package gate_test

import (
	"bytes"
	"fmt"
	"slices"
	"strings"
	"testing"

	"bailey/api"
	"bailey/gate"
	"bailey/keyring"
	"bailey/machine"
)

// told are the bytes of a reply.
func told(t *testing.T, r api.Result) []byte {
	t.Helper()
	b, e := machine.Reply(r)
	if e != api.OK {
		t.Fatalf("%+v: %d", r, e)
	}
	return b
}

// replies are such of each kind, each of which something is dressed.
func replies() []api.Result {
	var l []api.Result
	for kind := range api.OpGet + 1 {
		l = append(l, api.Result{Kind: kind, Num: 1, Bytes: 2, Time: 3, Names: []string{"a", "b"}, Pieces: pieces(4, 5), Data: []byte("data")})
	}
	return l
}

// dresses looks whether a gate makes of the reply to the lane's client the
// other one, and counts nothing.
func dresses(t *testing.T, what string, lane, client int, x, want api.Result) {
	t.Helper()
	g, _ := made(t)
	b, w := told(t, x), told(t, want)
	for range 2 {
		if got := g.Dress(lane, client, b); !bytes.Equal(got, w) {
			r, e := machine.ReadReply(got)
			t.Errorf("%s: %+v, %d, not %+v", what, r, e, want)
		}
	}
	counted(t, what, g, 0, 0, 0)
}

// stays looks whether a gate leaves the bytes as they are.
func stays(t *testing.T, what string, lane, client int, b []byte) {
	t.Helper()
	g, _ := made(t)
	if got := g.Dress(lane, client, b); !bytes.Equal(got, b) {
		t.Errorf("%s: %x of %x", what, got, b)
	}
	counted(t, what, g, 0, 0, 0)
}

// P30.3: bytes that no reply are.
func TestDressNoReply(t *testing.T) {
	right := told(t, replies()[api.OpReserve])
	for i, b := range [][]byte{nil, {}, {2}, []byte("no reply"), right[:len(right)-1], append(slices.Clone(right), 0), make([]byte, 5000), encoded(t, whole())} {
		stays(t, fmt.Sprint("bytes ", i), 1, 2, b)
	}
}

// P30.3: replies that are not OK, of each kind.
func TestDressNotOK(t *testing.T) {
	for _, x := range replies() {
		for _, e := range []api.Errno{api.ErrArg, api.ErrDenied, api.ErrUnavailable, api.ErrOrder, 25, 255} {
			x.Code = e
			stays(t, fmt.Sprintf("kind %d, code %d", x.Kind, e), 1, 2, told(t, x))
		}
	}
}

// P30.3: other kinds than the three stay as they are.
func TestDressOthers(t *testing.T) {
	for _, x := range replies() {
		if x.Kind == api.OpReserve || x.Kind == api.OpRestore || x.Kind == api.OpMint {
			continue
		}
		stays(t, fmt.Sprint("kind ", x.Kind), 1, 2, told(t, x))
		x.Tickets, x.Token = []string{sum('x')}, api.Token{ID: 1, Tag: sum('t')}
		stays(t, fmt.Sprint("kind ", x.Kind, ", with a ticket and a token"), 1, 2, told(t, x))
	}
}

// P30.3: of OpReserve a ticket to put; all else stays.
func TestDressReserve(t *testing.T) {
	for lane := range 5 {
		for client := range 8 {
			for _, x := range []api.Result{{}, {Num: 1, Time: 2, Bytes: 3}, {Num: num, Time: most, Bytes: most}, {Num: most, Time: 1, Bytes: 0}, replies()[0]} {
				x.Kind = api.OpReserve
				want := x
				want.Tickets = []string{putTicket(lane, client, x.Num, x.Time, x.Bytes)}
				dresses(t, fmt.Sprintf("%d of %d: %+v", client, lane, x), lane, client, x, want)
			}
		}
	}
}

// P30.3: of OpRestore a ticket to get for each of its pieces, in order.
func TestDressRestore(t *testing.T) {
	twice := append(pieces(1, 2), pieces(1)...)
	falling := pieces(1, 2, 3, 4)
	slices.Reverse(falling)
	for lane := range 5 {
		for _, client := range []int{0, 3, 7} {
			for _, l := range [][]api.Piece{nil, pieces(256), pieces(1, 2), twice, falling, pieces(1, 2, 3, 4, 5, 6, 7, 8)} {
				x := api.Result{Kind: api.OpRestore, Num: 5, Pieces: l}
				want := x
				for _, p := range l {
					want.Tickets = append(want.Tickets, getTicket(lane, client, p.Sum))
				}
				dresses(t, fmt.Sprintf("%d of %d: %d pieces", client, lane, len(l)), lane, client, x, want)
			}
		}
	}
}

// P30.3: of OpMint the token; of an id or an epoch that may not be the reply
// stays.
func TestDressMint(t *testing.T) {
	for lane := range 5 {
		for _, c := range []struct {
			id, epoch int
			may       bool
		}{
			{1, 0, true}, {1, 1, true}, {2, 3, true}, {num, num, true}, {num - 1, 0, true}, {1, num - 1, true},
			{0, 0, false}, {0, 5, false}, {num + 1, 0, false}, {most, 1, false}, {1, num + 1, false}, {1, most, false}, {0, num + 1, false},
		} {
			x := api.Result{Kind: api.OpMint, Num: c.id, Time: c.epoch, Bytes: 7}
			if !c.may {
				stays(t, fmt.Sprintf("lane %d, %+v", lane, c), lane, 2, told(t, x))
				x.Token = minted(master, lane, 1, 0, 0)
				stays(t, fmt.Sprintf("lane %d, %+v, with a token", lane, c), lane, 2, told(t, x))
				continue
			}
			want := x
			want.Token = minted(master, lane, c.id, c.epoch, 0)
			for _, client := range []int{0, 2, 7} {
				dresses(t, fmt.Sprintf("lane %d, %+v", lane, c), lane, client, x, want)
			}
		}
	}
}

// P30.3: of a lane that there is not there are no keys.
func TestDressNoLane(t *testing.T) {
	for _, x := range replies() {
		for _, lane := range []int{least, -1, 5, 6, 256, greatest} {
			stays(t, fmt.Sprint("kind ", x.Kind, " of the lane ", lane), lane, 2, told(t, x))
			y := x
			y.Num, y.Tickets, y.Token = 0, texts(3), api.Token{ID: 1, Tag: sum('t')}
			stays(t, fmt.Sprint("kind ", x.Kind, " of the lane ", lane, ", with tickets and a token"), lane, 2, told(t, y))
		}
	}
}

// P30.3: what is dressed already comes to the same; tickets, or a token, that
// are none of the right ones give way to these.
func TestDressAgain(t *testing.T) {
	g, _ := made(t)
	for _, x := range []api.Result{{Kind: api.OpReserve, Num: 5, Time: 6, Bytes: 7}, {Kind: api.OpRestore, Pieces: pieces(1, 2)}, {Kind: api.OpRestore}} {
		once := g.Dress(1, 2, told(t, x))
		for n := range 9 {
			x.Tickets = texts(n)
			if got := g.Dress(1, 2, told(t, x)); !bytes.Equal(got, once) {
				t.Errorf("kind %d, with %d tickets: %x, not %x", x.Kind, n, got, once)
			}
		}
		if twice := g.Dress(1, 2, once); !bytes.Equal(twice, once) {
			t.Errorf("kind %d: %x, then %x", x.Kind, once, twice)
		}
	}
	x := api.Result{Kind: api.OpMint, Num: 5}
	once := g.Dress(1, 2, told(t, x))
	for _, x.Token = range []api.Token{minted(master, 1, 5, 0, 0), minted(master, 1, 5, 0, 1), minted(master, 2, 5, 0, 0), {ID: 9, Tag: sum('t')}} {
		if got := g.Dress(1, 2, told(t, x)); !bytes.Equal(got, once) {
			t.Errorf("with a token: %x, not %x", got, once)
		}
	}
}

// texts are so many of 32 bytes.
func texts(n int) []string {
	var l []string
	for i := range n {
		l = append(l, sum(byte(i)))
	}
	return l
}

// P30.2, P30.3: with what a reply was dressed in, its client is let in, and
// nobody else.
func TestDressedIsAdmitted(t *testing.T) {
	g, _ := made(t)
	dressed := func(x api.Result) api.Result {
		r, e := machine.ReadReply(g.Dress(3, 4, told(t, x)))
		if e != api.OK {
			t.Fatalf("%+v: %d", x, e)
		}
		return r
	}
	reserved := dressed(api.Result{Kind: api.OpReserve, Num: 5, Time: 60, Bytes: 700})
	restored := dressed(api.Result{Kind: api.OpRestore, Pieces: pieces(1, 2)})
	given := dressed(api.Result{Kind: api.OpMint, Num: 8, Time: 2})
	if len(reserved.Tickets) != 1 || len(restored.Tickets) != 2 {
		t.Fatalf("%+v, %+v", reserved, restored)
	}
	var l []api.Request
	l = append(l, api.Request{Kind: api.OpPut, Num: reserved.Num, Bytes: reserved.Bytes, Time: reserved.Time, Ticket: reserved.Tickets[0], Data: []byte("data")})
	for i, p := range restored.Pieces {
		l = append(l, api.Request{Kind: api.OpGet, Pieces: []api.Piece{p}, Ticket: restored.Tickets[i]})
	}
	for _, kind := range others() {
		l = append(l, api.Request{Kind: kind, Token: given.Token})
	}
	for _, r := range l {
		for lane := range 5 {
			for client := range 8 {
				r.Lane, r.Client, r.Seq = lane, client, 9
				want := api.ErrDenied
				if lane == 3 && (client == 4 || r.Kind < api.OpPut) {
					want = api.OK
				}
				asked(t, fmt.Sprintf("kind %d, %d of %d", r.Kind, client, lane), r, want)
			}
		}
	}
}

// R3: what is handed in stays; what is answered is the caller's own.
func TestDressShared(t *testing.T) {
	g, _ := made(t)
	for _, x := range append(replies(), api.Result{Kind: api.OpMint, Code: api.ErrArg}) {
		b := append(make([]byte, 0, 5000), told(t, x)...)
		one, other := g.Dress(1, 2, b), g.Dress(1, 2, b)
		kept := bytes.Clone(other)
		clear(one[:cap(one)])
		if !bytes.Equal(b, told(t, x)) || strings.Trim(string(b[len(b):cap(b)]), "\x00") != "" {
			t.Errorf("kind %d: what was handed in is changed", x.Kind)
		}
		clear(b)
		if !bytes.Equal(other, kept) {
			t.Errorf("kind %d: what was answered is shared", x.Kind)
		}
	}
	for _, g := range []*gate.Gate{nil, {}, gate.New(&keyring.Ring{})} {
		b := []byte("no reply")
		one := g.Dress(1, 2, b)
		clear(one)
		if string(b) != "no reply" {
			t.Error("bytes that no reply are go out as they came in")
		}
	}
}

// P30.3: any bytes: they stay, or become a reply that differs in its tickets, or
// its token, alone.
func FuzzDress(f *testing.F) {
	for _, x := range replies() {
		if b, e := machine.Reply(x); e == api.OK {
			f.Add(b, 1, 2)
			f.Add(b, 5, 2)
		}
	}
	f.Fuzz(func(t *testing.T, b []byte, lane, client int) {
		g := gate.New(keyring.New(master))
		out := g.Dress(lane, client, b)
		if bytes.Equal(out, b) {
			return
		}
		x, e := machine.ReadReply(b)
		y, f := machine.ReadReply(out)
		if e != api.OK || f != api.OK || x.Code != api.OK {
			t.Fatalf("%x, %d, became %x, %d", b, e, out, f)
		}
		switch x.Kind {
		case api.OpReserve, api.OpRestore:
			y.Tickets = x.Tickets
		case api.OpMint:
			y.Token = x.Token
		}
		if !machine.SameReply(x, y) {
			t.Errorf("%+v became %+v", x, y)
		}
	})
}

// P30.3, DOC.md's fourth example: two replies of one id bear the same token.
func TestSameToken(t *testing.T) {
	one, _ := made(t)
	other, _ := made(t)
	b := told(t, api.Result{Kind: api.OpMint, Num: 2})
	if !bytes.Equal(one.Dress(1, 2, b), other.Dress(1, 2, b)) || bytes.Equal(one.Dress(1, 2, b), b) {
		t.Error("they differ")
	}
}
