package machine_test

import (
	"bytes"
	"fmt"
	"math/rand"
	"slices"
	"strings"
	"testing"

	"bailey/api"
	"bailey/machine"
)

// tag is that of the tokens here.
func tag() string { return sum('t') }

// texts are so many of them, each of so many bytes.
func texts(n, size int) []string {
	var l []string
	for i := range n {
		l = append(l, strings.Repeat(string([]byte{byte(0xf0 + i)}), size))
	}
	return l
}

// whole is a result whose every field has something of its own.
func whole() api.Result {
	return api.Result{
		Kind: 13, Code: 7, Num: 300, Bytes: 5, Time: 6, Names: []string{"na", "", "me"}, Pieces: pieces(8, 256),
		Tickets: []string{sum('x'), sum('y')}, Data: []byte("da\x00ta"),
		Token: api.Token{Lane: 4, ID: 2, Epoch: 3, Caveats: []api.Caveat{{Kind: 4, Num: 5}, {Kind: 2, Name: "a"}}, Tag: tag()},
	}
}

// wholeCode are the parts of its bytes, a field each.
func wholeCode() []string {
	return []string{
		"\x0d", "\x07", "\x82\x2c", "\x05", "\x06", "\x03\x02na\x00\x02me", "\x02\x20" + sum('a') + "\x08\x20" + sum('b') + "\x82\x00",
		"\x02\x20" + sum('x') + "\x20" + sum('y'), "\x05da\x00ta", "\x01", "\x04\x02\x03\x02\x04\x05\x02\x01a\x20" + tag(),
	}
}

// altered is the full result, changed.
func altered(change func(r *api.Result)) api.Result {
	r := whole()
	change(&r)
	return r
}

// counts are a result's fields that are numbers, each with its greatest value.
func counts() map[string]struct {
	set  func(r *api.Result, n int)
	high int
} {
	return map[string]struct {
		set  func(r *api.Result, n int)
		high int
	}{
		"Kind":  {func(r *api.Result, n int) { r.Kind = n }, 17},
		"Code":  {func(r *api.Result, n int) { r.Code = api.Errno(n) }, 255},
		"Num":   {func(r *api.Result, n int) { r.Num = n }, most},
		"Bytes": {func(r *api.Result, n int) { r.Bytes = n }, most},
		"Time":  {func(r *api.Result, n int) { r.Time = n }, most},
	}
}

// goodReplies are results that may be told, at the edges of what may be, and
// their bytes.
func goodReplies() []struct {
	r api.Result
	b string
} {
	token := func(id, epoch int) api.Token { return api.Token{ID: id, Epoch: epoch, Tag: tag()} }
	return []struct {
		r api.Result
		b string
	}{
		{api.Result{}, "\x00\x00\x00\x00\x00\x00\x00\x00\x00\x00"},
		{api.Result{Names: []string{}, Pieces: []api.Piece{}, Tickets: []string{}, Data: []byte{}, Token: api.Token{Caveats: []api.Caveat{}}}, strings.Repeat("\x00", 10)},
		{whole(), strings.Join(wholeCode(), "")},
		{api.Result{Kind: 17, Code: 255, Num: most, Bytes: most, Time: most}, "\x11\x81\x7f" + bigCode + bigCode + bigCode + strings.Repeat("\x00", 5)},
		{api.Result{Kind: 1, Code: 1, Num: 1, Bytes: 1, Time: 1}, strings.Repeat("\x01", 5) + strings.Repeat("\x00", 5)},
		{api.Result{Names: texts(12, 1)}, "\x00\x00\x00\x00\x00\x0c\x01\xf0\x01\xf1\x01\xf2\x01\xf3\x01\xf4\x01\xf5\x01\xf6\x01\xf7\x01\xf8\x01\xf9\x01\xfa\x01\xfb\x00\x00\x00\x00"},
		{api.Result{Names: []string{"", name16, "A B/\x00\xff", ""}}, "\x00\x00\x00\x00\x00\x04\x00\x10" + name16 + "\x06A B/\x00\xff\x00\x00\x00\x00\x00"},
		{api.Result{Pieces: pieces(1, 1, 1, 1, 1, 1, 1, 1)}, "\x00\x00\x00\x00\x00\x00\x08\x20" + sum('a') + "\x01\x20" + sum('b') + "\x01\x20" + sum('c') + "\x01\x20" + sum('d') + "\x01\x20" +
			sum('e') + "\x01\x20" + sum('f') + "\x01\x20" + sum('g') + "\x01\x20" + sum('h') + "\x01\x00\x00\x00"},
		{api.Result{Tickets: texts(8, 32)}, "\x00\x00\x00\x00\x00\x00\x00\x08\x20" + strings.Join(texts(8, 32), "\x20") + "\x00\x00"},
		{api.Result{Data: []byte{0}}, "\x00\x00\x00\x00\x00\x00\x00\x00\x01\x00\x00"},
		{api.Result{Data: bytes.Repeat([]byte{0xff}, 256)}, "\x00\x00\x00\x00\x00\x00\x00\x00\x82\x00" + strings.Repeat("\xff", 256) + "\x00"},
		{api.Result{Token: token(1, 0)}, "\x00\x00\x00\x00\x00\x00\x00\x00\x00\x01\x00\x01\x00\x00\x20" + tag()},
		{api.Result{Token: token(num, num)}, "\x00\x00\x00\x00\x00\x00\x00\x00\x00\x01\x00" + numCode + numCode + "\x00\x20" + tag()},
	}
}

// wrongTokens are such that are not zero and may not be.
func wrongTokens() []api.Token {
	good := api.Token{ID: 1, Tag: tag()}
	l := []api.Token{{ID: 1}, {Lane: 1}, {Epoch: 1}, {Tag: "t"}, {Tag: tag()}, {ID: -1}, {Caveats: []api.Caveat{{Kind: 1}}}, {Caveats: make([]api.Caveat, 1)}}
	for _, change := range []func(t *api.Token){
		func(t *api.Token) { t.Lane = 5 }, func(t *api.Token) { t.Lane = -1 }, func(t *api.Token) { t.ID = 0 }, func(t *api.Token) { t.ID = num + 1 },
		func(t *api.Token) { t.Epoch = -1 }, func(t *api.Token) { t.Epoch = num + 1 }, func(t *api.Token) { t.Tag = tag()[1:] }, func(t *api.Token) { t.Tag += "t" },
		func(t *api.Token) { t.Caveats = make([]api.Caveat, 1) }, func(t *api.Token) { t.Caveats = slices.Repeat([]api.Caveat{{Kind: 1}}, 9) },
	} {
		t := good
		change(&t)
		l = append(l, t)
	}
	return l
}

// wrongReplies are results of which one thing may not be.
func wrongReplies() []api.Result {
	var l []api.Result
	for _, f := range counts() {
		for _, n := range []int{least, -1, f.high + 1, greatest, 1 << 41} {
			l = append(l, altered(func(r *api.Result) { f.set(r, n) }))
		}
	}
	for _, names := range [][]string{texts(13, 1), texts(13, 0), make([]string, 1000), {name17}, {"a", "b", name17}, {name17, "a"}, append(texts(11, 16), name17), {strings.Repeat("a", 300)}} {
		l = append(l, altered(func(r *api.Result) { r.Names = names }))
	}
	for _, many := range [][]api.Piece{
		pieces(1, 1, 1, 1, 1, 1, 1, 1, 1), make([]api.Piece, 1000), pieces(0), pieces(257), pieces(-1), pieces(1, 257), pieces(257, 1), pieces(1, 2, 3, 4, 5, 6, 7, 0),
		{{Sum: sum('a')[1:], Size: 1}}, {{Sum: sum('a') + "a", Size: 1}}, {{Size: 1}}, append(pieces(1), api.Piece{Sum: "a", Size: 1}),
	} {
		l = append(l, altered(func(r *api.Result) { r.Pieces = many }))
	}
	for _, tickets := range [][]string{
		texts(9, 32), make([]string, 1000), {""}, texts(1, 31), texts(1, 33), {sum('a'), sum('a')[1:]}, {sum('a') + "a", sum('a')}, append(texts(7, 32), "a"), {strings.Repeat("a", 300)},
	} {
		l = append(l, altered(func(r *api.Result) { r.Tickets = tickets }))
	}
	for _, n := range []int{257, 258, 4096, 100000} {
		l = append(l, altered(func(r *api.Result) { r.Data = make([]byte, n) }))
	}
	for _, t := range wrongTokens() {
		l = append(l, altered(func(r *api.Result) { r.Token = t }), api.Result{Token: t})
	}
	return l
}

// P26.4: the bytes; none of what may not be told.
func TestReply(t *testing.T) {
	for _, g := range goodReplies() {
		if b, e := machine.Reply(g.r); string(b) != g.b || e != api.OK {
			t.Errorf("%s: %x, %d", told(g.r), b, e)
		}
	}
	for _, r := range wrongReplies() {
		if b, e := machine.Reply(r); len(b) != 0 || e != api.ErrArg {
			t.Errorf("%s: %x, %d", told(r), b, e)
		}
	}
}

// P26.4: each number at its least and its greatest, one below and one above.
func TestReplyNumbers(t *testing.T) {
	for what, f := range counts() {
		for n, want := range map[int]api.Errno{-1: api.ErrArg, 0: api.OK, 1: api.OK, f.high - 1: api.OK, f.high: api.OK, f.high + 1: api.ErrArg} {
			for i, r := range []api.Result{{}, whole()} {
				f.set(&r, n)
				b, e := machine.Reply(r)
				if e != want {
					t.Errorf("%s %d of result %d: %d", what, n, i, e)
				}
				if back, f := machine.ReadReply(b); e == api.OK && (f != api.OK || told(back) != told(r)) {
					t.Errorf("%s %d of result %d is read as %s, %d", what, n, i, told(back), f)
				}
			}
		}
	}
}

// P26.4: each list, and each text, at its greatest length and one above.
func TestReplyLengths(t *testing.T) {
	for what, f := range map[string]struct {
		set       func(r *api.Result, n int)
		low, high int
	}{
		"Names":           {func(r *api.Result, n int) { r.Names = texts(n, 3) }, 0, 12},
		"bytes of a Name": {func(r *api.Result, n int) { r.Names = texts(2, n) }, 0, 16},
		"Pieces":          {func(r *api.Result, n int) { r.Pieces = pieces(slices.Repeat([]int{9}, n)...) }, 0, 8},
		"Size":            {func(r *api.Result, n int) { r.Pieces = pieces(7, n) }, 1, 256},
		"bytes of a Sum":  {func(r *api.Result, n int) { r.Pieces = append(pieces(7), api.Piece{Sum: texts(1, n)[0], Size: 5}) }, 32, 32},
		"Tickets":         {func(r *api.Result, n int) { r.Tickets = texts(n, 32) }, 0, 8},
		"their bytes":     {func(r *api.Result, n int) { r.Tickets = texts(2, n) }, 32, 32},
		"Data":            {func(r *api.Result, n int) { r.Data = make([]byte, n) }, 0, 256},
		"Caveats":         {func(r *api.Result, n int) { r.Token.Caveats = slices.Repeat([]api.Caveat{{Kind: 1, Num: 2}}, n) }, 0, 8},
		"bytes of a Tag":  {func(r *api.Result, n int) { r.Token.Tag = texts(1, n)[0] }, 32, 32},
	} {
		for n := range 300 {
			want := api.OK
			if n < f.low || n > f.high {
				want = api.ErrArg
			}
			if n > 13 { // texts of more than that are not told apart, and not needed
				if what == "Names" || what == "Tickets" {
					break
				}
			}
			r := whole()
			f.set(&r, n)
			b, e := machine.Reply(r)
			if e != want {
				t.Errorf("%d %s: %d", n, what, e)
			}
			if back, f := machine.ReadReply(b); e == api.OK && (f != api.OK || told(back) != told(r)) {
				t.Errorf("%d %s are read as %s, %d", n, what, told(back), f)
			}
		}
	}
}

// nothing tells whether r is the zero result.
func nothing(r api.Result) bool { return told(r) == told(api.Result{}) }

// P26.4: what was written is read, and nothing behind it.
func TestReadReply(t *testing.T) {
	for _, g := range goodReplies() {
		if r, e := machine.ReadReply([]byte(g.b)); told(r) != told(g.r) || e != api.OK {
			t.Errorf("%x: %s, %d", g.b, told(r), e)
		}
		for _, more := range []string{"\x00", "\x80", "more", g.b} {
			if r, e := machine.ReadReply([]byte(g.b + more)); !nothing(r) || e != api.ErrForm {
				t.Errorf("%x and %q: %s, %d", g.b, more, told(r), e)
			}
		}
	}
}

// P26.4: bytes that end too early, at each place.
func TestReadReplyShort(t *testing.T) {
	for _, g := range goodReplies() {
		for end := range g.b {
			if r, e := machine.ReadReply([]byte(g.b[:end])); !nothing(r) || e != api.ErrShort {
				t.Errorf("the first %d bytes of %x: %s, %d", end, g.b, told(r), e)
			}
		}
	}
}

// wrongParts are, of each field (by its place), bytes that are not taken there.
func wrongParts() map[int]map[string]api.Errno {
	number := map[string]api.Errno{bigOver: api.ErrLong, strings.Repeat("\xff", 8) + "\x7f": api.ErrLong, strings.Repeat("\xff", 9): api.ErrForm, "\x80\x01": api.ErrForm}
	return map[int]map[string]api.Errno{
		0: {"\x12": api.ErrLong, "\x81\x00": api.ErrLong, "\x80\x01": api.ErrForm},
		1: {"\x82\x00": api.ErrLong, bigCode: api.ErrLong, "\x80\x01": api.ErrForm},
		2: number,
		3: number,
		4: number,
		5: {
			"\x0d" + strings.Repeat("\x00", 13): api.ErrLong, "\x80\x00": api.ErrForm, "\x01\x11" + name17: api.ErrLong, "\x02\x01a\x11" + name17: api.ErrLong,
			"\x01\x80\x01": api.ErrForm, "\x01\x82\x2c" + strings.Repeat("a", 300): api.ErrLong,
		},
		6: {
			"\x09" + strings.Repeat("\x20"+sum('a')+"\x01", 9): api.ErrLong, "\x80\x00": api.ErrForm, "\x01\x21" + sum('a') + "a\x01": api.ErrLong,
			"\x01\x20" + sum('a') + "\x82\x01": api.ErrLong, "\x01\x20" + sum('a') + "\x00": api.ErrForm, "\x01\x1f" + sum('a')[1:] + "\x01": api.ErrForm,
			"\x02\x20" + sum('a') + "\x00\x21" + sum('a') + "a\x01": api.ErrForm,
		},
		7: {
			"\x09" + strings.Repeat("\x20"+sum('a'), 9): api.ErrLong, "\x80\x00": api.ErrForm, "\x01\x21" + sum('a') + "a": api.ErrLong,
			"\x01\x1f" + sum('a')[1:]: api.ErrForm, "\x01\x00": api.ErrForm, "\x02\x20" + sum('a') + "\x1f" + sum('a')[1:]: api.ErrForm,
			"\x02\x1f" + sum('a')[1:] + "\x21" + sum('a') + "a": api.ErrLong,
		},
		8: {"\x82\x01" + strings.Repeat("a", 257): api.ErrLong, "\x80\x00": api.ErrForm},
		9: {"\x02": api.ErrForm, "\xff": api.ErrForm, "\x00": api.ErrForm}, // no, and yet a token: more bytes
		10: {
			"\x05\x02\x03\x00\x20" + tag(): api.ErrLong, "\x04\x00\x03\x00\x20" + tag(): api.ErrForm, "\x04" + numOver + "\x03\x00\x20" + tag(): api.ErrLong,
			"\x04\x02" + numOver + "\x00\x20" + tag(): api.ErrLong, "\x04\x02\x03\x09" + strings.Repeat("\x04\x05", 9) + "\x20" + tag(): api.ErrLong,
			"\x04\x02\x03\x01\x07\x20" + tag(): api.ErrLong, "\x04\x02\x03\x01\x00\x20" + tag(): api.ErrForm, "\x04\x02\x03\x00\x21" + tag() + "t": api.ErrLong,
			"\x04\x02\x03\x00\x1f" + tag()[1:]: api.ErrForm, "\x00\x00\x00\x00\x00": api.ErrForm, "": api.ErrShort, // the zero token is no yes
		},
	}
}

// P26.4, R7: each field beyond its limit, and such that may not be.
func TestReadReplyWrong(t *testing.T) {
	for at, parts := range wrongParts() {
		for part, want := range parts {
			code := wholeCode()
			code[at] = part
			b := strings.Join(code, "")
			if r, e := machine.ReadReply([]byte(b)); !nothing(r) || e != want {
				t.Errorf("field %d is %x: %s, %d, not %d", at, part, told(r), e, want)
			}
		}
	}
}

// R7: of two fields beyond their limits the first one's error stays; a ticket
// that may not be is told behind these.
func TestReadReplyFirst(t *testing.T) {
	parts := map[int]string{0: "\x12", 1: "\x80\x01", 2: bigOver, 3: "\x80\x01", 4: bigOver, 5: "\x80\x00", 6: "\x09", 7: "\x80\x00", 8: "\x82\x01", 9: "\x02", 10: "\x05"}
	for a, x := range parts {
		want := api.ErrLong
		if x[0] == 0x80 || a == 9 {
			want = api.ErrForm
		}
		for b, y := range parts {
			if a >= b {
				continue
			}
			code := wholeCode()
			code[a], code[b] = x, y
			if r, e := machine.ReadReply([]byte(strings.Join(code, ""))); !nothing(r) || e != want {
				t.Errorf("fields %d and %d: %d", a, b, e)
			}
		}
	}
	code := wholeCode()
	code[7] = "\x01\x1f" + sum('a')[1:]
	b := strings.Join(code, "")
	if _, e := machine.ReadReply([]byte(b[:len(b)-1])); e != api.ErrShort {
		t.Errorf("a ticket that may not be, too short: %d", e)
	}
	code[8] = "\x82\x01"
	if _, e := machine.ReadReply([]byte(strings.Join(code, ""))); e != api.ErrLong {
		t.Errorf("a ticket that may not be, and too much data: %d", e)
	}
}

// alterations are changes of one field of a result alone.
func alterations() []func(r *api.Result) {
	return []func(r *api.Result){
		func(r *api.Result) { r.Kind++ }, func(r *api.Result) { r.Code++ }, func(r *api.Result) { r.Num++ }, func(r *api.Result) { r.Bytes++ }, func(r *api.Result) { r.Time++ },
		func(r *api.Result) { r.Num, r.Bytes = r.Bytes, r.Num }, func(r *api.Result) { r.Bytes, r.Time = r.Time, r.Bytes }, func(r *api.Result) { r.Kind = -1 },
		func(r *api.Result) { r.Names = nil }, func(r *api.Result) { r.Names[2] = "mf" }, func(r *api.Result) { r.Names = r.Names[:2] }, func(r *api.Result) { r.Names = append(r.Names, "") }, func(r *api.Result) { slices.Reverse(r.Names) },
		func(r *api.Result) { r.Pieces = nil }, func(r *api.Result) { r.Pieces[1].Size-- }, func(r *api.Result) { r.Pieces[0].Sum = sum('c') }, func(r *api.Result) { slices.Reverse(r.Pieces) }, func(r *api.Result) { r.Pieces = r.Pieces[:1] },
		func(r *api.Result) { r.Tickets = nil }, func(r *api.Result) { r.Tickets[1] = sum('z') }, func(r *api.Result) { slices.Reverse(r.Tickets) }, func(r *api.Result) { r.Tickets = r.Tickets[:1] },
		func(r *api.Result) { r.Data = nil }, func(r *api.Result) { r.Data[4]++ }, func(r *api.Result) { r.Data = r.Data[:4] }, func(r *api.Result) { r.Data = append(r.Data, 0) },
		func(r *api.Result) { r.Token = api.Token{} }, func(r *api.Result) { r.Token.Lane-- }, func(r *api.Result) { r.Token.ID++ }, func(r *api.Result) { r.Token.Epoch++ }, func(r *api.Result) { r.Token.Tag = sum('u') },
		func(r *api.Result) { r.Token.Caveats = nil }, func(r *api.Result) { r.Token.Caveats[0].Num++ }, func(r *api.Result) { slices.Reverse(r.Token.Caveats) },
	}
}

// P26.4: field by field, of what may not be told, too.
func TestSameReply(t *testing.T) {
	all := []api.Result{whole(), {}}
	for _, change := range alterations() {
		all = append(all, altered(change))
	}
	for i, a := range all {
		for j, b := range all {
			if machine.SameReply(a, b) != (i == j) {
				t.Errorf("%d and %d: %s and %s", i, j, told(a), told(b))
			}
		}
	}
	for _, r := range wrongReplies() {
		again := r
		again.Names, again.Data = slices.Clone(r.Names), bytes.Clone(r.Data)
		if !machine.SameReply(r, again) {
			t.Errorf("%s and itself", told(r))
		}
	}
	empty := api.Result{Names: []string{}, Pieces: []api.Piece{}, Tickets: []string{}, Data: []byte{}, Token: api.Token{Caveats: []api.Caveat{}}}
	if !machine.SameReply(api.Result{}, empty) || !machine.SameReply(empty, api.Result{}) {
		t.Error("nil lists and empty ones are not the same")
	}
}

// anyReply is a result that may be told.
func anyReply(r *rand.Rand) api.Result {
	x := api.Result{Names: texts(r.Intn(13), r.Intn(17)), Pieces: pieces(slices.Repeat([]int{1 + r.Intn(256)}, r.Intn(9))...), Tickets: texts(r.Intn(9), 32), Data: make([]byte, r.Intn(257))}
	r.Read(x.Data)
	for _, f := range counts() {
		f.set(&x, r.Intn(f.high+1)>>(r.Intn(3)*r.Intn(20)))
	}
	if r.Intn(2) == 0 {
		x.Token = api.Token{Lane: r.Intn(5), ID: 1 + r.Intn(num), Epoch: r.Intn(num + 1), Tag: tag(), Caveats: slices.Repeat([]api.Caveat{{Kind: 6, Num: r.Intn(most)}}, r.Intn(9))}
	}
	return x
}

// P26.4: what was told is read; two have the same bytes just if they are the same.
func TestReplyThereAndBack(t *testing.T) {
	r := rand.New(rand.NewSource(26))
	ahead, aheadBytes := api.Result{}, []byte(nil)
	for i := range 3000 {
		x := anyReply(r)
		if i%3 == 0 { // one field alone differs, or none
			x = ahead
			x.Time = r.Intn(2)
		}
		b, e := machine.Reply(x)
		back, f := machine.ReadReply(b)
		if e != api.OK || f != api.OK || told(back) != told(x) || !machine.SameReply(back, x) || len(b) > api.MaxEntry {
			t.Fatalf("%s: %d; %s, %d", told(x), e, told(back), f)
		}
		if same := told(x) == told(ahead); i > 0 && (same != bytes.Equal(b, aheadBytes) || same != machine.SameReply(x, ahead)) {
			t.Fatalf("%s and %s: %x and %x", told(x), told(ahead), b, aheadBytes)
		}
		ahead, aheadBytes = x, b
	}
}

// wipe writes over all that r's lists have, and over the room behind them.
func wipe(r api.Result) {
	clear(r.Names[:cap(r.Names)])
	clear(r.Pieces[:cap(r.Pieces)])
	clear(r.Tickets[:cap(r.Tickets)])
	clear(r.Data[:cap(r.Data)])
	clear(r.Token.Caveats[:cap(r.Token.Caveats)])
}

// Rule R3: nothing that is handed in is changed or kept; what is answered is
// the caller's own.
func TestReplyShared(t *testing.T) {
	r := whole()
	r.Names, r.Data = append(make([]string, 0, 20), r.Names...), append(make([]byte, 0, 20), r.Data...)
	b, again := bytesOf(t, r), bytesOf(t, r)
	clear(b[:cap(b)])
	if told(r) != told(whole()) || r.Names[:4][3] != "" || r.Data[:6][5] != 0 || string(again) != strings.Join(wholeCode(), "") {
		t.Errorf("it was changed: %s, %x", told(r), again)
	}
	one, _ := machine.ReadReply(again)
	other, _ := machine.ReadReply(again)
	if string(again) != strings.Join(wholeCode(), "") {
		t.Errorf("ReadReply changed its bytes: %x", again)
	}
	clear(again)
	wipe(one)
	if told(other) != told(whole()) {
		t.Errorf("it is shared: %s", told(other))
	}
}

// P26.4: any bytes: what is taken may be told, and has just those bytes.
func FuzzReadReply(f *testing.F) {
	for _, g := range goodReplies() {
		f.Add([]byte(g.b))
	}
	for at, parts := range wrongParts() {
		for part := range parts {
			code := wholeCode()
			code[at] = part
			f.Add([]byte(strings.Join(code, "")))
		}
	}
	f.Fuzz(func(t *testing.T, b []byte) {
		r, e := machine.ReadReply(b)
		if e != api.OK {
			if !nothing(r) || e != api.ErrShort && e != api.ErrForm && e != api.ErrLong {
				t.Errorf("%x: %s beside %d", b, told(r), e)
			}
			return
		}
		if again, e := machine.Reply(r); e != api.OK || !bytes.Equal(again, b) {
			t.Errorf("%x: %s, whose bytes are %x, %d", b, fmt.Sprint(r), again, e)
		}
	})
}
