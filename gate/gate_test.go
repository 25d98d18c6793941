package gate_test

import (
	"bytes"
	"crypto/hmac"
	"crypto/sha256"
	"encoding/binary"
	"encoding/hex"
	"fmt"
	"math/rand"
	"slices"
	"strings"
	"sync"
	"testing"

	"bailey/api"
	"bailey/caveat"
	"bailey/gate"
	"bailey/keyring"
	"bailey/pack"
)

const master = "m"

// mac is the tag of text under key, as the library has it.
func mac(key, text string) string {
	h := hmac.New(sha256.New, []byte(key))
	h.Write([]byte(text))
	return string(h.Sum(nil))
}

// key is a lane's key of a purpose.
func key(master, purpose string, lane int) string {
	return mac(master, string(binary.BigEndian.AppendUint64([]byte(purpose+"\x00"), uint64(lane))))
}

// code is the word, and the numbers' bytes behind it.
func code(word string, l ...int) string {
	b := []byte(word)
	for _, n := range l {
		b = pack.Num(b, n)
	}
	return string(b)
}

// putTicket is that of the lane's client to put.
func putTicket(lane, client, id, time, bytes int) string {
	return mac(key(master, "put", lane), code("put", lane, client, id, time, bytes))
}

// getTicket is that of the lane's client to get the piece of that sum.
func getTicket(lane, client int, sum string) string {
	return mac(key(master, "get", lane), code("get", lane, client)+"\x20"+sum)
}

// minted is the lane's token of that master, made weaker so many times.
func minted(master string, lane, id, epoch, weaker int) api.Token {
	t := api.Token{Lane: lane, ID: id, Epoch: epoch, Tag: mac(key(master, "token", lane), code("token", lane, id, epoch))}
	for i := range weaker {
		t.Caveats = append(t.Caveats, api.Caveat{Kind: api.CvUntil, Num: 100 - i})
		t.Tag = mac(t.Tag, code("", api.CvUntil, 100-i))
	}
	return t
}

// encoded are the bytes of a request that may be.
func encoded(t *testing.T, r api.Request) []byte {
	t.Helper()
	b, e := gate.Encode(r)
	if e != api.OK {
		t.Fatalf("%s: %d", line(r), e)
	}
	return b
}

// made is a gate of a ring of its own.
func made(t *testing.T) (*gate.Gate, *keyring.Ring) {
	t.Helper()
	r := keyring.New(master)
	g := gate.New(r)
	if g == nil {
		t.Fatal("no gate")
	}
	return g, r
}

// counted looks whether the gate has just these counts.
func counted(t *testing.T, what string, g *gate.Gate, admitted, malformed, denied int) {
	t.Helper()
	if g.Admitted() != admitted || g.Malformed() != malformed || g.Denied() != denied {
		t.Errorf("%s: %d, %d, %d are counted, not %d, %d, %d", what, g.Admitted(), g.Malformed(), g.Denied(), admitted, malformed, denied)
	}
}

// comes looks whether a gate, asked by the client of the lane, answers the
// bytes with e, and counts that alone.
func comes(t *testing.T, what string, lane, client int, b []byte, e api.Errno) {
	t.Helper()
	g, ring := made(t)
	counted(t, "new", g, 0, 0, 0)
	want, _ := gate.Decode(b)
	if e != api.OK {
		want = api.Request{}
	}
	for times := 1; times < 3; times++ {
		r, got := g.Admit(lane, client, b)
		if got != e || line(r) != line(want) {
			t.Errorf("%s: %d, %s, not %d, %s", what, got, line(r), e, line(want))
		}
		switch e {
		case api.OK:
			counted(t, what, g, times, 0, 0)
		case api.ErrMalformed:
			counted(t, what, g, 0, times, 0)
			if ring.Made() != 0 {
				t.Errorf("%s: keys are made", what)
			}
		default:
			counted(t, what, g, 0, 0, times)
		}
	}
}

// asked looks at a request that its own lane and client send.
func asked(t *testing.T, what string, r api.Request, e api.Errno) {
	t.Helper()
	comes(t, what, r.Lane, r.Client, encoded(t, r), e)
}

// others are the kinds that bear a token.
func others() []int {
	var l []int
	for kind := api.OpSpace; kind <= api.OpConf; kind++ {
		l = append(l, kind)
	}
	return l
}

// The tags here are those of the chapters, reckoned elsewhere.
func TestKnownTags(t *testing.T) {
	for want, got := range map[string]string{
		"840c3e5bcc0e1e868fdd3c4ee2a127a4e3d26daea6ce22d4a9d907e58700db3a": putTicket(1, 2, 3, 4, 5),
		"bb567e6ed788d3f7c55b853f70d8b32411adb2ba2403f4fd01461b86e61bb5f5": getTicket(1, 2, sum('a')),
		"8831c76902306b657844624294f49c4f7a221e654b1283b44caddd5e6803ccb5": minted(master, 1, 2, 3, 0).Tag,
		"bf58f8e53dac8d292786d624817c4d5c4162945720f575155d01f2fa25123ad4": minted(master, 1, 2, 3, 1).Tag,
	} {
		if hex.EncodeToString([]byte(got)) != want {
			t.Errorf("%x, not %s", got, want)
		}
	}
}

// P30.2: no ring, no gate.
func TestNew(t *testing.T) {
	if g := gate.New(nil); g != nil {
		t.Error("a gate without a ring")
	}
	one, _ := made(t)
	other, _ := made(t)
	one.Admit(1, 2, nil)
	counted(t, "one", one, 0, 1, 0)
	counted(t, "the other", other, 0, 0, 0)
}

// P30.2, P30.5: bytes that no request are, and such of another lane or client.
func TestMalformed(t *testing.T) {
	for _, b := range [][]byte{nil, {}, {0}, []byte("no request"), make([]byte, 4096), make([]byte, 4097)} {
		comes(t, fmt.Sprintf("%d bytes", len(b)), 1, 2, b, api.ErrMalformed)
	}
	for at, parts := range wrongParts() {
		for part := range parts {
			c := wholeCode()
			c[at] = part
			comes(t, fmt.Sprintf("field %d is %x", at, part), 1, 2, []byte(strings.Join(c, "")), api.ErrMalformed)
		}
	}
	right := encoded(t, api.Request{Lane: 1, Client: 2, Seq: 3, Kind: api.OpList, Token: minted(master, 1, 1, 0, 0)})
	comes(t, "right", 1, 2, right, api.OK)
	comes(t, "short", 1, 2, right[:len(right)-1], api.ErrMalformed)
	comes(t, "one more", 1, 2, append(slices.Clone(right), 0), api.ErrMalformed)
	for _, lane := range []int{least, -1, 0, 2, 3, 4, 5, 257, greatest} {
		comes(t, fmt.Sprint("the lane ", lane), lane, 2, right, api.ErrMalformed)
	}
	for _, client := range []int{least, -1, 0, 1, 3, 7, 8, 258, greatest} {
		comes(t, fmt.Sprint("the client ", client), 1, client, right, api.ErrMalformed)
	}
	comes(t, "lane and client", 2, 1, right, api.ErrMalformed)
	wrong := encoded(t, api.Request{Lane: 1, Client: 2, Seq: 3, Kind: api.OpList})
	comes(t, "another lane, no token", 2, 2, wrong, api.ErrMalformed)
	comes(t, "no token", 1, 2, wrong, api.ErrDenied)
}

// putting is a request of OpPut of so many bytes, with the right ticket for
// those that were reserved.
func putting(data, reserved int) api.Request {
	return api.Request{
		Lane: 3, Client: 5, Seq: 9, Kind: api.OpPut, Num: 7, Bytes: reserved, Time: 300,
		Data: bytes.Repeat([]byte{'d'}, data), Ticket: putTicket(3, 5, 7, 300, reserved),
	}
}

// P30.2: of OpPut how many bytes.
func TestPutSizes(t *testing.T) {
	for _, c := range []struct {
		data, reserved int
		e              api.Errno
	}{
		{0, 0, api.ErrMalformed}, {0, 1, api.ErrMalformed}, {0, most, api.ErrMalformed},
		{1, 0, api.ErrDenied}, {1, 1, api.OK}, {1, 2, api.OK}, {1, most, api.OK},
		{2, 1, api.ErrDenied}, {2, 2, api.OK}, {2, 3, api.OK},
		{255, 254, api.ErrDenied}, {255, 255, api.OK}, {256, 0, api.ErrDenied}, {256, 255, api.ErrDenied}, {256, 256, api.OK}, {256, 257, api.OK}, {256, most, api.OK},
	} {
		asked(t, fmt.Sprint(c.data, " of ", c.reserved), putting(c.data, c.reserved), c.e)
	}
	r := putting(0, 5)
	r.Ticket = ""
	asked(t, "no data, no ticket", r, api.ErrMalformed)
	// 257 bytes have no request; these are such as it would have.
	b := encoded(t, putting(256, 256))
	at := bytes.Index(b, []byte("\x82\x00ddd"))
	b = slices.Concat(b[:at], []byte("\x82\x01d"), b[at+2:])
	if _, e := gate.Decode(b); e != api.ErrLong {
		t.Errorf("257 bytes: %d", e)
	}
	comes(t, "257 bytes", 3, 5, b, api.ErrMalformed)
}

// turned are all texts that have one bit of s turned.
func turned(s string) []string {
	var l []string
	for i := range len(s) * 8 {
		b := []byte(s)
		b[i/8] ^= 1 << (i % 8)
		l = append(l, string(b))
	}
	return l
}

// P30.2: of OpPut which tickets.
func TestPutTickets(t *testing.T) {
	text := code("put", 3, 5, 7, 300, 20)
	wrong := map[string]string{
		"none": "", "zeros": strings.Repeat("\x00", 32),
		"another lane's": putTicket(2, 5, 7, 300, 20), "another client's": putTicket(3, 4, 7, 300, 20), "another Num's": putTicket(3, 5, 8, 300, 20),
		"another Time's": putTicket(3, 5, 7, 299, 20), "another Bytes'": putTicket(3, 5, 7, 300, 21), "Num and Time changed": putTicket(3, 5, 300, 7, 20),
		"of the Get key": mac(key(master, "get", 3), text), "of the Token key": mac(key(master, "token", 3), text), "of another lane's key": mac(key(master, "put", 2), text),
		"of another master": mac(key("n", "put", 3), text), "of the master": mac(master, text), "of no key": mac("", text),
		"a get ticket": getTicket(3, 5, sum('a')), "of the sum": string(func() []byte { b := sha256.Sum256([]byte("x")); return b[:] }()),
	}
	for i, ticket := range turned(putTicket(3, 5, 7, 300, 20)) {
		wrong[fmt.Sprint("the bit turned ", i)] = ticket
	}
	for what, ticket := range wrong {
		r := putting(10, 20)
		r.Ticket = ticket
		asked(t, what, r, api.ErrDenied)
	}
	for what, change := range map[string]func(r *api.Request){
		"lane": func(r *api.Request) { r.Lane-- }, "client": func(r *api.Request) { r.Client++ }, "Num": func(r *api.Request) { r.Num = 0 },
		"Time": func(r *api.Request) { r.Time++ }, "Bytes": func(r *api.Request) { r.Bytes-- }, "Num and Time": func(r *api.Request) { r.Num, r.Time = r.Time, r.Num },
	} {
		r := putting(10, 20)
		change(&r)
		asked(t, what, r, api.ErrDenied)
	}
	// What the ticket does not say may be anything; a token is of no use.
	for what, change := range map[string]func(r *api.Request){
		"Seq": func(r *api.Request) { r.Seq++ }, "Data": func(r *api.Request) { r.Data[3]++ }, "Space": func(r *api.Request) { r.Space = "s" }, "Name": func(r *api.Request) { r.Name = "A" },
		"Pieces": func(r *api.Request) { r.Pieces = pieces(1, 2, 3) }, "Token": func(r *api.Request) { r.Token = minted(master, 3, 1, 0, 0) },
		"another token": func(r *api.Request) { r.Token = minted("n", 2, 1, 0, 0) },
	} {
		r := putting(10, 20)
		change(&r)
		asked(t, what, r, api.OK)
		r.Ticket = ""
		asked(t, what+", no ticket", r, api.ErrDenied)
	}
}

// P30.2: put tickets at the least and the greatest numbers.
func TestPutTicketEdges(t *testing.T) {
	for _, lane := range []int{0, 4} {
		for _, client := range []int{0, 7} {
			for _, n := range []int{0, num} {
				for _, time := range []int{0, most} {
					r := api.Request{Lane: lane, Client: client, Seq: num, Kind: api.OpPut, Num: n, Bytes: most, Time: time, Data: []byte{0}, Ticket: putTicket(lane, client, n, time, most)}
					asked(t, line(r), r, api.OK)
				}
			}
		}
	}
}

// getting is a request of OpGet of that piece, with the right ticket.
func getting(p api.Piece) api.Request {
	return api.Request{Lane: 2, Client: 6, Seq: 9, Kind: api.OpGet, Pieces: []api.Piece{p}, Ticket: getTicket(2, 6, p.Sum)}
}

// P30.2: of OpGet how many pieces, and which tickets.
func TestGet(t *testing.T) {
	one := pieces(5)[0]
	asked(t, "one", getting(one), api.OK)
	for _, many := range [][]api.Piece{nil, {one, one}, pieces(5, 6), pieces(1, 2, 3, 4, 5, 6, 7, 8)} {
		r := getting(one)
		r.Pieces = many
		asked(t, fmt.Sprint(len(many), " pieces"), r, api.ErrMalformed)
		r.Ticket = ""
		asked(t, fmt.Sprint(len(many), " pieces, no ticket"), r, api.ErrMalformed)
	}
	text := code("get", 2, 6) + "\x20" + one.Sum
	wrong := map[string]string{
		"none": "", "another sum's": getTicket(2, 6, sum('b')), "another lane's": getTicket(1, 6, one.Sum), "another client's": getTicket(2, 7, one.Sum),
		"of the Put key": mac(key(master, "put", 2), text), "of the Token key": mac(key(master, "token", 2), text), "of another lane's key": mac(key(master, "get", 1), text),
		"of another master": mac(key("n", "get", 2), text), "of no key": mac("", text), "without the sum's length": mac(key(master, "get", 2), code("get", 2, 6)+one.Sum),
		"the sum": one.Sum, "a put ticket": putTicket(2, 6, 1, 2, 3),
	}
	for i, ticket := range turned(getTicket(2, 6, one.Sum)) {
		wrong[fmt.Sprint("the bit turned ", i)] = ticket
	}
	for what, ticket := range wrong {
		r := getting(one)
		r.Ticket = ticket
		asked(t, what, r, api.ErrDenied)
	}
	for what, change := range map[string]func(r *api.Request){
		"lane": func(r *api.Request) { r.Lane++ }, "client": func(r *api.Request) { r.Client = 0 }, "piece": func(r *api.Request) { r.Pieces = pieces(1, 1)[1:] },
	} {
		r := getting(one)
		change(&r)
		asked(t, what, r, api.ErrDenied)
	}
	for what, change := range map[string]func(r *api.Request){
		"Seq": func(r *api.Request) { r.Seq++ }, "Size": func(r *api.Request) { r.Pieces[0].Size = 256 }, "Data": func(r *api.Request) { r.Data = []byte("d") }, "Num": func(r *api.Request) { r.Num = 8 },
		"Bytes": func(r *api.Request) { r.Bytes = 8 }, "Time": func(r *api.Request) { r.Time = 8 }, "Token": func(r *api.Request) { r.Token = minted("n", 1, 2, 3, 1) },
	} {
		r := getting(one)
		change(&r)
		asked(t, what, r, api.OK)
	}
}

// bearing is a request of the kind, of the lane 1, with that token.
func bearing(kind int, x api.Token) api.Request {
	return api.Request{Lane: 1, Client: 2, Seq: 3, Kind: kind, Token: x}
}

// P30.2, P30.5: of each other kind a token that token.Open takes, of that lane.
func TestTokens(t *testing.T) {
	for _, kind := range others() {
		for weaker := range 9 {
			asked(t, fmt.Sprintf("kind %d, %d times weaker", kind, weaker), bearing(kind, minted(master, 1, 2, 3, weaker)), api.OK)
		}
		for what, x := range map[string]api.Token{
			"zero":            {},
			"another lane's":  minted(master, 2, 2, 3, 0),
			"the lane 0's":    minted(master, 0, 2, 3, 2),
			"another key's":   {Lane: 1, ID: 2, Epoch: 3, Tag: minted(master, 2, 2, 3, 0).Tag},
			"another master":  minted("n", 1, 2, 3, 0),
			"weaker of wrong": minted("n", 1, 2, 3, 3),
			"another tag":     {Lane: 1, ID: 2, Epoch: 3, Tag: sum('t')},
			"another id":      {Lane: 1, ID: 1, Epoch: 3, Tag: minted(master, 1, 2, 3, 0).Tag},
			"another epoch":   {Lane: 1, ID: 2, Epoch: 2, Tag: minted(master, 1, 2, 3, 0).Tag},
			"of the Put key":  {Lane: 1, ID: 2, Epoch: 3, Tag: mac(key(master, "put", 1), code("token", 1, 2, 3))},
			"of the Get key":  {Lane: 1, ID: 2, Epoch: 3, Tag: mac(key(master, "get", 1), code("token", 1, 2, 3))},
			"of no key":       {Lane: 1, ID: 2, Epoch: 3, Tag: mac("", code("token", 1, 2, 3))},
			"made stronger":   {Lane: 1, ID: 2, Epoch: 3, Tag: minted(master, 1, 2, 3, 1).Tag},
			"a caveat gone":   {Lane: 1, ID: 2, Epoch: 3, Caveats: minted(master, 1, 2, 3, 1).Caveats, Tag: minted(master, 1, 2, 3, 2).Tag},
			"a caveat more":   {Lane: 1, ID: 2, Epoch: 3, Caveats: minted(master, 1, 2, 3, 1).Caveats, Tag: minted(master, 1, 2, 3, 0).Tag},
			"another caveat":  {Lane: 1, ID: 2, Epoch: 3, Caveats: []api.Caveat{{Kind: api.CvUntil, Num: 101}}, Tag: minted(master, 1, 2, 3, 1).Tag},
		} {
			asked(t, fmt.Sprintf("kind %d, %s", kind, what), bearing(kind, x), api.ErrDenied)
		}
	}
	for i, tag := range turned(minted(master, 1, 2, 3, 1).Tag) {
		x := minted(master, 1, 2, 3, 1)
		x.Tag = tag
		asked(t, fmt.Sprint("the bit turned ", i), bearing(api.OpList, x), api.ErrDenied)
	}
}

// P30.2: tokens of all lanes in all lanes; beside them a request may have
// anything, as its caveats are looked at elsewhere.
func TestTokensOfLanes(t *testing.T) {
	for lane := range 5 {
		for of := range 5 {
			r := whole()
			r.Lane, r.Token = lane, minted(master, of, num, num, 8)
			want := api.ErrDenied
			if lane == of {
				want = api.OK
			}
			asked(t, fmt.Sprint(of, " in ", lane), r, want)
		}
	}
}

// DOC.md, the first example: a token of the lane 1 in the lane 2, where the
// lane's own key made its tag.
func TestForeignLane(t *testing.T) {
	x := minted(master, 2, 2, 3, 0)
	x.Lane = 1
	r := bearing(api.OpList, x)
	r.Lane = 2
	asked(t, "of the lane 1", r, api.ErrDenied)
	// The tag is of the lane 2's key and of a text that says 1.
	x.Tag = mac(key(master, "token", 2), code("token", 1, 2, 3))
	r.Token = x
	asked(t, "of the lane 1, with the lane 2's key", r, api.ErrDenied)
}

// plainly is what Admit has to answer, as the chapter says it.
func plainly(lane, client int, b []byte) api.Errno {
	r, e := gate.Decode(b)
	if e != api.OK || r.Lane != lane || r.Client != client {
		return api.ErrMalformed
	}
	if r.Kind == api.OpPut && len(r.Data) == 0 || r.Kind == api.OpGet && len(r.Pieces) != 1 {
		return api.ErrMalformed
	}
	x := r.Token
	tag := mac(key(master, "token", lane), code("token", x.Lane, x.ID, x.Epoch))
	for _, c := range x.Caveats {
		tag = mac(tag, string(caveat.Put(nil, c)))
	}
	yes := x.Lane == lane && x.Tag == tag
	switch r.Kind {
	case api.OpPut:
		yes = len(r.Data) <= r.Bytes && r.Ticket == putTicket(lane, client, r.Num, r.Time, r.Bytes)
	case api.OpGet:
		yes = r.Ticket == getTicket(lane, client, r.Pieces[0].Sum)
	}
	if !yes {
		return api.ErrDenied
	}
	return api.OK
}

// some are the bytes of requests of all ends, and of none.
func some(t *testing.T) [][]byte {
	l := [][]byte{nil, []byte("no request"), make([]byte, 5000), []byte(strings.Join(wholeCode(), ""))}
	for weaker := range 3 {
		l = append(l, encoded(t, bearing(1+weaker, minted(master, 1, 2, 3, weaker))), encoded(t, bearing(12+weaker, minted("n", 1, 2, 3, weaker))))
	}
	for n := range 3 {
		l = append(l, encoded(t, putting(n, 1)), encoded(t, getting(pieces(5, 6)[n/2])))
	}
	r := putting(1, 1)
	r.Ticket = sum('x')
	return append(l, encoded(t, r), encoded(t, bearing(api.OpPut, minted(master, 1, 2, 3, 0))), encoded(t, bearing(api.OpGet, minted(master, 1, 2, 3, 0))))
}

// client is who sent the bytes of a request; of others the client 2 of the lane 1.
func client(b []byte) (lane, client int) {
	if r, e := gate.Decode(b); e == api.OK {
		return r.Lane, r.Client
	}
	return 1, 2
}

// P30.2: what was admitted, malformed or denied is counted, one behind the
// other, whoever asks.
func TestCounts(t *testing.T) {
	g, ring := made(t)
	r := rand.New(rand.NewSource(31))
	all := some(t)
	n := map[api.Errno]int{}
	for range 600 {
		b := all[r.Intn(len(all))]
		lane, client := client(b)
		if r.Intn(5) == 0 {
			lane = r.Intn(5)
		}
		want := plainly(lane, client, b)
		if got, e := g.Admit(lane, client, b); e != want || e != api.OK && !nothing(got) {
			t.Fatalf("%d, %d, %x: %d, %s, not %d", lane, client, b, e, line(got), want)
		}
		n[want]++
		counted(t, "one behind the other", g, n[api.OK], n[api.ErrMalformed], n[api.ErrDenied])
	}
	if len(n) != 3 || n[api.OK] < 50 || n[api.ErrMalformed] < 50 || n[api.ErrDenied] < 50 || ring.Made() != 3 {
		t.Errorf("%v, keys of %d lanes are made", n, ring.Made())
	}
}

// P30.2: several may ask at once: none of them is lost.
func TestTogether(t *testing.T) {
	g, _ := made(t)
	var wait sync.WaitGroup
	for _, b := range some(t) {
		lane, client := client(b)
		wait.Go(func() {
			for range 100 {
				g.Admit(lane, client, b)
			}
		})
	}
	// These take so little that they come in between one another.
	begin := make(chan struct{})
	for range 8 {
		wait.Go(func() {
			<-begin
			for range 5000 {
				g.Admit(1, 2, nil)
			}
		})
	}
	close(begin)
	wait.Wait()
	n := map[api.Errno]int{api.ErrMalformed: 8 * 5000}
	for _, b := range some(t) {
		lane, client := client(b)
		n[plainly(lane, client, b)] += 100
	}
	counted(t, "together", g, n[api.OK], n[api.ErrMalformed], n[api.ErrDenied])
}

// R5: a gate that no call made.
func TestNoGate(t *testing.T) {
	for what, g := range map[string]*gate.Gate{"nil": nil, "zero": {}} {
		for _, b := range some(t) {
			lane, client := client(b)
			if r, e := g.Admit(lane, client, b); !nothing(r) || e != api.ErrNil {
				t.Errorf("%s: %s, %d", what, line(r), e)
			}
		}
		counted(t, what, g, 0, 0, 0)
		for _, x := range replies() {
			b := told(t, x)
			if got := g.Dress(1, 2, b); !bytes.Equal(got, b) {
				t.Errorf("%s: %x of %x", what, got, b)
			}
		}
		if got := g.Dress(1, 2, nil); len(got) != 0 {
			t.Errorf("%s: %x of no bytes", what, got)
		}
	}
}

// P30.2, P30.3: a ring that no call made has no keys, so that nothing opens with
// them, and nothing is dressed.
func TestNoRing(t *testing.T) {
	g := gate.New(&keyring.Ring{})
	if g == nil {
		t.Fatal("no gate")
	}
	malformed, denied := 0, 0
	unkeyed := bearing(api.OpList, api.Token{Lane: 1, ID: 2, Epoch: 3, Tag: mac("", code("token", 1, 2, 3))})
	put, get := putting(1, 1), getting(pieces(5)[0])
	put.Ticket, get.Ticket = mac("", code("put", 3, 5, 7, 300, 1)), mac("", code("get", 2, 6)+"\x20"+sum('a'))
	all := append(some(t), encoded(t, unkeyed), encoded(t, put), encoded(t, get))
	put.Ticket, get.Ticket = "", ""
	for _, b := range append(all, encoded(t, put), encoded(t, get)) {
		lane, client := client(b)
		want := api.ErrDenied
		if plainly(lane, client, b) == api.ErrMalformed {
			want = api.ErrMalformed
			malformed++
		} else {
			denied++
		}
		if r, e := g.Admit(lane, client, b); !nothing(r) || e != want {
			t.Errorf("%x: %s, %d, not %d", b, line(r), e, want)
		}
		counted(t, "no ring", g, 0, malformed, denied)
	}
	for _, x := range replies() {
		b := told(t, x)
		if got := g.Dress(1, 2, b); !bytes.Equal(got, b) {
			t.Errorf("%x of %x", got, b)
		}
	}
}

// R3: what is handed in, or answered, may be changed.
func TestAdmitShared(t *testing.T) {
	g, _ := made(t)
	x := whole()
	x.Token = minted(master, 1, 2, 3, 2)
	b := encoded(t, x)
	kept := bytes.Clone(b)
	one, _ := g.Admit(1, 2, b)
	other, _ := g.Admit(1, 2, b)
	if !bytes.Equal(b, kept) {
		t.Errorf("it was changed: %x", b)
	}
	clear(b)
	wipe(one)
	if line(other) != line(x) {
		t.Errorf("it is shared: %s", line(other))
	}
	if again, e := g.Admit(1, 2, kept); line(again) != line(x) || e != api.OK {
		t.Errorf("again: %s, %d", line(again), e)
	}
}

// P30.5: any bytes: those of no request change nothing but a count; who is let
// in bears what allows it.
func FuzzAdmit(f *testing.F) {
	f.Add([]byte("\x01\x02\x03\x0c\x00\x00\x00\x00\x00\x00\x00\x00\x00"), 1, 2)
	for at, parts := range wrongParts() {
		for part := range parts {
			c := wholeCode()
			c[at] = part
			f.Add([]byte(strings.Join(c, "")), 1, 2)
		}
	}
	for weaker := range 3 {
		b, _ := gate.Encode(bearing(2+weaker, minted(master, 1, 2, 3, weaker)))
		f.Add(b, 1, 2)
		b, _ = gate.Encode(putting(weaker, 1))
		f.Add(b, 3, 5)
		b, _ = gate.Encode(getting(pieces(5)[0]))
		f.Add(b, 2, 5+weaker)
	}
	f.Fuzz(func(t *testing.T, b []byte, lane, client int) {
		ring := keyring.New(master)
		g := gate.New(ring)
		want := plainly(lane, client, b)
		r, e := g.Admit(lane, client, b)
		if e != want || e != api.OK && !nothing(r) {
			t.Fatalf("%x: %d, %s, not %d", b, e, line(r), want)
		}
		ends := map[api.Errno]int{want: 1}
		counted(t, "it", g, ends[api.OK], ends[api.ErrMalformed], ends[api.ErrDenied])
		if want == api.ErrMalformed && ring.Made() != 0 {
			t.Errorf("%x: keys are made", b)
		}
	})
}
