package gate_test

import (
	"bytes"
	"fmt"
	"math"
	"math/rand"
	"slices"
	"strings"
	"testing"

	"bailey/api"
	"bailey/gate"
)

const (
	least    = math.MinInt
	greatest = math.MaxInt
	num      = api.MaxNum
	most     = api.MaxBytes // and MaxTime
	name16   = "abcdefghij_-0189"
	numCode  = "\x88\x80\x80\x80\x00"     // 2^31
	numOver  = "\x88\x80\x80\x80\x01"     // one more
	bigCode  = "\xa0\x80\x80\x80\x80\x00" // 2^40
	bigOver  = "\xa0\x80\x80\x80\x80\x01" // one more
)

// sum is 32 bytes, of which the first one tells them apart.
func sum(first byte) string { return string([]byte{first}) + strings.Repeat("\xfe", 31) }

// pieces are such of these sizes, with the sums a, b and so on.
func pieces(sizes ...int) []api.Piece {
	var l []api.Piece
	for i, n := range sizes {
		l = append(l, api.Piece{Sum: sum(byte('a' + i)), Size: n})
	}
	return l
}

// plain is the least request that may be.
func plain() api.Request { return api.Request{Seq: 1, Kind: 1} }

// whole is a request whose every field has something of its own.
func whole() api.Request {
	return api.Request{
		Lane: 1, Client: 2, Seq: 300, Kind: 4,
		Token: api.Token{Lane: 3, ID: 5, Epoch: 6, Caveats: []api.Caveat{{Kind: 4, Num: 5}, {Kind: 2, Name: "a"}}, Tag: sum('t')},
		Space: "s\x00\xff", Name: "N a", Num: 7, Bytes: 8, Time: 9, Pieces: pieces(8, 256), Data: []byte("da\x00ta"), Ticket: sum('u'),
	}
}

// wholeCode are the parts of its bytes, a field each; the token's yes is one, too.
func wholeCode() []string {
	return []string{
		"\x01", "\x02", "\x82\x2c", "\x04", "\x01", "\x03\x05\x06\x02\x04\x05\x02\x01a\x20" + sum('t'), "\x03s\x00\xff", "\x03N a", "\x07", "\x08", "\x09",
		"\x02\x20" + sum('a') + "\x08\x20" + sum('b') + "\x82\x00", "\x05da\x00ta", "\x20" + sum('u'),
	}
}

// altered is the whole request, changed.
func altered(change func(r *api.Request)) api.Request {
	r := whole()
	change(&r)
	return r
}

// line is a request as text; nil lists and empty ones are the same there.
func line(r api.Request) string {
	return fmt.Sprintf("%d %d %d %d %+v %q %q %d %d %d %+v %q %q", r.Lane, r.Client, r.Seq, r.Kind, r.Token, r.Space, r.Name, r.Num, r.Bytes, r.Time, r.Pieces, r.Data, r.Ticket)
}

func nothing(r api.Request) bool { return line(r) == line(api.Request{}) }

// number is a field of a request that is one, with its least and its greatest value.
type number struct {
	at        func(r *api.Request) *int
	low, high int
}

func numbers() map[string]number {
	return map[string]number{
		"Lane":   {func(r *api.Request) *int { return &r.Lane }, 0, 4},
		"Client": {func(r *api.Request) *int { return &r.Client }, 0, 7},
		"Seq":    {func(r *api.Request) *int { return &r.Seq }, 1, num},
		"Kind":   {func(r *api.Request) *int { return &r.Kind }, 1, 17},
		"Num":    {func(r *api.Request) *int { return &r.Num }, 0, num},
		"Bytes":  {func(r *api.Request) *int { return &r.Bytes }, 0, most},
		"Time":   {func(r *api.Request) *int { return &r.Time }, 0, most},
	}
}

// good are requests that may be, at the edges of what may be, and their bytes.
func good() []struct {
	r api.Request
	b string
} {
	zeros := func(n int) string { return strings.Repeat("\x00", n) }
	with := func(change func(r *api.Request)) api.Request {
		r := plain()
		change(&r)
		return r
	}
	return []struct {
		r api.Request
		b string
	}{
		{plain(), "\x00\x00\x01\x01" + zeros(9)},
		{api.Request{Seq: 1, Kind: 1, Token: api.Token{Caveats: []api.Caveat{}}, Pieces: []api.Piece{}, Data: []byte{}}, "\x00\x00\x01\x01" + zeros(9)},
		{whole(), strings.Join(wholeCode(), "")},
		{api.Request{Lane: 4, Client: 7, Seq: num, Kind: 17, Num: num, Bytes: most, Time: most}, "\x04\x07" + numCode + "\x11\x00\x00\x00" + numCode + bigCode + bigCode + zeros(3)},
		{with(func(r *api.Request) { r.Space, r.Name = name16, strings.Repeat("\xff", 16) }), "\x00\x00\x01\x01\x00\x10" + name16 + "\x10" + strings.Repeat("\xff", 16) + zeros(6)},
		{with(func(r *api.Request) { r.Pieces = pieces(1, 1, 1, 1, 1, 1, 1, 256) }), "\x00\x00\x01\x01" + zeros(6) + "\x08\x20" + sum('a') + "\x01\x20" + sum('b') + "\x01\x20" + sum('c') + "\x01\x20" + sum('d') + "\x01\x20" +
			sum('e') + "\x01\x20" + sum('f') + "\x01\x20" + sum('g') + "\x01\x20" + sum('h') + "\x82\x00" + zeros(2)},
		{with(func(r *api.Request) { r.Data = []byte{0} }), "\x00\x00\x01\x01" + zeros(7) + "\x01\x00\x00"},
		{with(func(r *api.Request) { r.Data = bytes.Repeat([]byte{0xff}, 256) }), "\x00\x00\x01\x01" + zeros(7) + "\x82\x00" + strings.Repeat("\xff", 256) + "\x00"},
		{with(func(r *api.Request) { r.Ticket = sum('x') }), "\x00\x00\x01\x01" + zeros(8) + "\x20" + sum('x')},
		{with(func(r *api.Request) { r.Token = api.Token{ID: 1, Tag: sum('t')} }), "\x00\x00\x01\x01\x01\x00\x01\x00\x00\x20" + sum('t') + zeros(8)},
		{with(func(r *api.Request) { r.Token = api.Token{Lane: 4, ID: num, Epoch: num, Tag: sum('t')} }), "\x00\x00\x01\x01\x01\x04" + numCode + numCode + "\x00\x20" + sum('t') + zeros(8)},
	}
}

// wrongTokens are such that are not zero and may not be.
func wrongTokens() []api.Token {
	l := []api.Token{{ID: 1}, {Lane: 1}, {Epoch: 1}, {Tag: "t"}, {Tag: sum('t')}, {ID: -1}, {Caveats: []api.Caveat{{Kind: 1}}}, {Caveats: make([]api.Caveat, 1)}}
	for _, change := range []func(t *api.Token){
		func(t *api.Token) { t.Lane = 5 }, func(t *api.Token) { t.Lane = -1 }, func(t *api.Token) { t.ID = 0 }, func(t *api.Token) { t.ID = num + 1 },
		func(t *api.Token) { t.Epoch = -1 }, func(t *api.Token) { t.Epoch = num + 1 }, func(t *api.Token) { t.Tag = t.Tag[1:] }, func(t *api.Token) { t.Tag += "t" },
		func(t *api.Token) { t.Caveats = make([]api.Caveat, 1) }, func(t *api.Token) { t.Caveats = slices.Repeat([]api.Caveat{{Kind: 4}}, 9) },
	} {
		t := api.Token{ID: 1, Tag: sum('t')}
		change(&t)
		l = append(l, t)
	}
	return l
}

// wrong are requests of which one thing may not be.
func wrong() []api.Request {
	l := []api.Request{{}, {Seq: 1}, {Kind: 1}}
	for _, f := range numbers() {
		for _, n := range []int{least, f.low - 1, f.high + 1, 1 << 41, greatest} {
			l = append(l, altered(func(r *api.Request) { *f.at(r) = n }))
		}
	}
	for _, n := range []int{17, 18, 5000} {
		l = append(l, altered(func(r *api.Request) { r.Space = strings.Repeat("a", n) }), altered(func(r *api.Request) { r.Name = strings.Repeat("a", n) }))
	}
	for _, many := range [][]api.Piece{
		pieces(1, 1, 1, 1, 1, 1, 1, 1, 1), make([]api.Piece, 1), make([]api.Piece, 1000), pieces(0), pieces(257), pieces(-1), pieces(1, 257), pieces(257, 1), pieces(1, 2, 3, 4, 5, 6, 7, 0),
		{{Sum: sum('a')[1:], Size: 1}}, {{Sum: sum('a') + "a", Size: 1}}, {{Size: 1}}, append(pieces(1), api.Piece{Sum: "a", Size: 1}),
	} {
		l = append(l, altered(func(r *api.Request) { r.Pieces = many }))
	}
	for _, n := range []int{257, 258, 4096, 100000} {
		l = append(l, altered(func(r *api.Request) { r.Data = make([]byte, n) }))
	}
	for _, n := range []int{1, 16, 31, 33, 64, 5000} {
		l = append(l, altered(func(r *api.Request) { r.Ticket = strings.Repeat("a", n) }))
	}
	for _, t := range wrongTokens() {
		l = append(l, altered(func(r *api.Request) { r.Token = t }), api.Request{Seq: 1, Kind: 1, Token: t})
	}
	return l
}

// P30.1: the bytes; none of what may not be.
func TestEncode(t *testing.T) {
	for _, g := range good() {
		if b, e := gate.Encode(g.r); string(b) != g.b || e != api.OK {
			t.Errorf("%s: %x, %d", line(g.r), b, e)
		}
	}
	for _, r := range wrong() {
		if b, e := gate.Encode(r); b != nil || e != api.ErrArg {
			t.Errorf("%s: %x, %d", line(r), b, e)
		}
	}
}

// P30.1: each number one below, at and one above its limits.
func TestNumbers(t *testing.T) {
	for what, f := range numbers() {
		for n, want := range map[int]api.Errno{f.low - 1: api.ErrArg, f.low: api.OK, f.low + 1: api.OK, f.high - 1: api.OK, f.high: api.OK, f.high + 1: api.ErrArg} {
			for i, r := range []api.Request{plain(), whole()} {
				*f.at(&r) = n
				b, e := gate.Encode(r)
				if e != want {
					t.Errorf("%s %d of the request %d: %d", what, n, i, e)
				}
				if back, f := gate.Decode(b); e == api.OK && (f != api.OK || line(back) != line(r)) {
					t.Errorf("%s %d of the request %d is read as %s, %d", what, n, i, line(back), f)
				}
			}
		}
	}
}

// P30.1: each list, and each text, of each length up to beyond its greatest.
func TestLengths(t *testing.T) {
	for what, f := range map[string]struct {
		set func(r *api.Request, n int)
		may func(n int) bool
	}{
		"bytes of Space": {func(r *api.Request, n int) { r.Space = strings.Repeat("\xfd", n) }, func(n int) bool { return n <= 16 }},
		"bytes of Name":  {func(r *api.Request, n int) { r.Name = strings.Repeat("\xfd", n) }, func(n int) bool { return n <= 16 }},
		"Pieces":         {func(r *api.Request, n int) { r.Pieces = pieces(slices.Repeat([]int{9}, n)...) }, func(n int) bool { return n <= 8 }},
		"Size":           {func(r *api.Request, n int) { r.Pieces = pieces(7, n) }, func(n int) bool { return 1 <= n && n <= 256 }},
		"bytes of a Sum": {func(r *api.Request, n int) {
			r.Pieces = append(pieces(7), api.Piece{Sum: strings.Repeat("s", n), Size: 5})
		}, func(n int) bool { return n == 32 }},
		"bytes of Data":   {func(r *api.Request, n int) { r.Data = make([]byte, n) }, func(n int) bool { return n <= 256 }},
		"bytes of Ticket": {func(r *api.Request, n int) { r.Ticket = strings.Repeat("s", n) }, func(n int) bool { return n == 0 || n == 32 }},
		"Caveats":         {func(r *api.Request, n int) { r.Token.Caveats = slices.Repeat([]api.Caveat{{Kind: 4, Num: 2}}, n) }, func(n int) bool { return n <= 8 }},
		"bytes of a Tag":  {func(r *api.Request, n int) { r.Token.Tag = strings.Repeat("s", n) }, func(n int) bool { return n == 32 }},
	} {
		for n := range 300 {
			want := api.ErrArg
			if f.may(n) {
				want = api.OK
			}
			r := whole()
			f.set(&r, n)
			b, e := gate.Encode(r)
			if e != want {
				t.Errorf("%d %s: %d", n, what, e)
			}
			if back, f := gate.Decode(b); e == api.OK && (f != api.OK || line(back) != line(r)) {
				t.Errorf("%d %s are read as %s, %d", n, what, line(back), f)
			}
		}
	}
}

// P30.1: what was written is read; nothing may stand behind it.
func TestDecode(t *testing.T) {
	for _, g := range good() {
		if r, e := gate.Decode([]byte(g.b)); line(r) != line(g.r) || e != api.OK {
			t.Errorf("%x: %s, %d", g.b, line(r), e)
		}
		for _, more := range []string{"\x00", "\x80", "more", g.b} {
			if r, e := gate.Decode([]byte(g.b + more)); !nothing(r) || e != api.ErrForm {
				t.Errorf("%x and %q: %s, %d", g.b, more, line(r), e)
			}
		}
	}
}

// P30.1: bytes that end too early, behind each field and within it.
func TestDecodeShort(t *testing.T) {
	for _, g := range good() {
		for end := range g.b {
			if r, e := gate.Decode([]byte(g.b[:end])); !nothing(r) || e != api.ErrShort {
				t.Errorf("the first %d bytes of %x: %s, %d", end, g.b, line(r), e)
			}
		}
	}
}

// P30.1: more bytes than a request may have, ahead of whatever is wrong with them.
func TestDecodeLong(t *testing.T) {
	whole := strings.Join(wholeCode(), "")
	for _, begin := range []string{"", whole, "\x80", "\x05", whole[:20]} {
		for n, want := range map[int]api.Errno{4095: 0, 4096: 0, 4097: api.ErrLong, 4098: api.ErrLong, 100000: api.ErrLong} {
			b := append([]byte(begin), make([]byte, n-len(begin))...)
			r, e := gate.Decode(b)
			if !nothing(r) || want != 0 && e != want || want == 0 && e != errorOf(begin) {
				t.Errorf("%d bytes from %x on: %s, %d", n, begin, line(r), e)
			}
		}
	}
}

// errorOf is that of the beginnings of TestDecodeLong, with zeros behind them.
func errorOf(begin string) api.Errno {
	if begin == "\x05" {
		return api.ErrLong
	}
	return api.ErrForm
}

// wrongParts are, of each field (by its place), bytes that are not taken there.
func wrongParts() map[int]map[string]api.Errno {
	count := map[string]api.Errno{numOver: api.ErrLong, strings.Repeat("\xff", 8) + "\x7f": api.ErrLong, strings.Repeat("\xff", 9): api.ErrForm, "\x80\x01": api.ErrForm}
	big := map[string]api.Errno{bigOver: api.ErrLong, strings.Repeat("\xff", 8) + "\x7f": api.ErrLong, strings.Repeat("\xff", 9): api.ErrForm, "\x80\x01": api.ErrForm}
	text := map[string]api.Errno{"\x11" + name16 + "z": api.ErrLong, "\x82\x2c" + strings.Repeat("a", 300): api.ErrLong, "\x80\x01a": api.ErrForm}
	return map[int]map[string]api.Errno{
		0: {"\x05": api.ErrLong, "\x81\x00": api.ErrLong, "\x80\x01": api.ErrForm},
		1: {"\x08": api.ErrLong, "\x81\x00": api.ErrLong, "\x80\x01": api.ErrForm},
		2: {"\x00": api.ErrForm, numOver: api.ErrLong, "\x80\x01": api.ErrForm},
		3: {"\x00": api.ErrForm, "\x12": api.ErrLong, "\x81\x00": api.ErrLong, "\x80\x01": api.ErrForm},
		4: {"\x02": api.ErrForm, "\xff": api.ErrForm, "\x81\x00": api.ErrForm},
		5: {
			"\x05\x05\x06\x00\x20" + sum('t'): api.ErrLong, "\x03\x00\x06\x00\x20" + sum('t'): api.ErrForm, "\x03" + numOver + "\x06\x00\x20" + sum('t'): api.ErrLong,
			"\x03\x05" + numOver + "\x00\x20" + sum('t'): api.ErrLong, "\x03\x05\x06\x09" + strings.Repeat("\x04\x05", 9) + "\x20" + sum('t'): api.ErrLong,
			"\x03\x05\x06\x01\x07\x20" + sum('t'): api.ErrLong, "\x03\x05\x06\x01\x00\x20" + sum('t'): api.ErrForm, "\x03\x05\x06\x00\x21" + sum('t') + "t": api.ErrLong,
			"\x03\x05\x06\x00\x1f" + sum('t')[1:]: api.ErrForm, "\x00\x00\x00\x00\x00": api.ErrForm, // the zero token is no yes
		},
		6:  text,
		7:  text,
		8:  count,
		9:  big,
		10: big,
		11: {
			"\x09" + strings.Repeat("\x20"+sum('a')+"\x01", 9): api.ErrLong, "\x80\x00": api.ErrForm, "\x01\x21" + sum('a') + "a\x01": api.ErrLong,
			"\x01\x20" + sum('a') + "\x82\x01": api.ErrLong, "\x01\x20" + sum('a') + "\x00": api.ErrForm, "\x01\x1f" + sum('a')[1:] + "\x01": api.ErrForm,
			"\x02\x20" + sum('a') + "\x00\x21" + sum('a') + "a\x01": api.ErrForm,
		},
		12: {"\x82\x01" + strings.Repeat("a", 257): api.ErrLong, "\x80\x00": api.ErrForm},
		13: {"\x01a": api.ErrForm, "\x1f" + sum('u')[1:]: api.ErrForm, "\x21" + sum('u') + "u": api.ErrLong, "\x82\x2c" + strings.Repeat("a", 300): api.ErrLong, "\x80\x20" + sum('u'): api.ErrForm, "\x20" + sum('u')[1:]: api.ErrShort},
	}
}

// P30.1, R7: each field beyond its limit, and such that may not be.
func TestDecodeWrong(t *testing.T) {
	for at, parts := range wrongParts() {
		for part, want := range parts {
			code := wholeCode()
			code[at] = part
			b := strings.Join(code, "")
			if r, e := gate.Decode([]byte(b)); !nothing(r) || e != want {
				t.Errorf("field %d is %x: %s, %d, not %d", at, part, line(r), e, want)
			}
		}
	}
	code := wholeCode()
	code[4] = "\x00" // no, and yet a token: what stands there is read as other fields
	if r, e := gate.Decode([]byte(strings.Join(code, ""))); !nothing(r) || e == api.OK {
		t.Errorf("no, and a token: %s, %d", line(r), e)
	}
}

// R7: of two fields beyond their limits the first one's error stays; what may
// not be is told behind these.
func TestDecodeFirst(t *testing.T) {
	parts := map[int]string{0: "\x05", 1: "\x80\x01", 2: numOver, 3: "\x80\x01", 4: "\x02", 5: "\x05", 6: "\x11", 7: "\x80\x01", 8: numOver, 9: "\x80\x01", 10: bigOver, 11: "\x80\x00", 12: "\x82\x01", 13: "\x80\x20"}
	for a, x := range parts {
		want := api.ErrLong
		if x[0] == 0x80 || a == 4 {
			want = api.ErrForm
		}
		for b, y := range parts {
			if a >= b {
				continue
			}
			code := wholeCode()
			code[a], code[b] = x, y
			if r, e := gate.Decode([]byte(strings.Join(code, ""))); !nothing(r) || e != want {
				t.Errorf("fields %d and %d: %d", a, b, e)
			}
		}
	}
	for _, at := range []int{2, 3} {
		code := wholeCode()
		code[at] = "\x00"
		b := strings.Join(code, "")
		if _, e := gate.Decode([]byte(b[:len(b)-1])); e != api.ErrShort {
			t.Errorf("field %d is 0, too short: %d", at, e)
		}
		if _, e := gate.Decode([]byte(b + "more")); e != api.ErrForm {
			t.Errorf("field %d is 0, and more bytes: %d", at, e)
		}
		code[10] = bigOver
		if _, e := gate.Decode([]byte(strings.Join(code, ""))); e != api.ErrLong {
			t.Errorf("field %d is 0, and the time above its limit: %d", at, e)
		}
	}
}

// alterations are changes of one field of a request alone.
func alterations() []func(r *api.Request) {
	l := []func(r *api.Request){
		func(r *api.Request) { r.Num, r.Bytes = r.Bytes, r.Num }, func(r *api.Request) { r.Bytes, r.Time = r.Time, r.Bytes }, func(r *api.Request) { r.Space, r.Name = r.Name, r.Space },
		func(r *api.Request) { r.Space += "a" }, func(r *api.Request) { r.Name = "" }, func(r *api.Request) { r.Name = "n a" },
		func(r *api.Request) { r.Pieces = nil }, func(r *api.Request) { r.Pieces[1].Size-- }, func(r *api.Request) { r.Pieces[0].Sum = sum('c') }, func(r *api.Request) { slices.Reverse(r.Pieces) }, func(r *api.Request) { r.Pieces = r.Pieces[:1] },
		func(r *api.Request) { r.Data = nil }, func(r *api.Request) { r.Data[4]++ }, func(r *api.Request) { r.Data = r.Data[:4] }, func(r *api.Request) { r.Data = append(r.Data, 0) },
		func(r *api.Request) { r.Token = api.Token{} }, func(r *api.Request) { r.Token.Lane-- }, func(r *api.Request) { r.Token.ID++ }, func(r *api.Request) { r.Token.Epoch++ }, func(r *api.Request) { r.Token.Tag = sum('v') },
		func(r *api.Request) { r.Token.Caveats = nil }, func(r *api.Request) { r.Token.Caveats[0].Num++ }, func(r *api.Request) { slices.Reverse(r.Token.Caveats) },
		func(r *api.Request) { r.Ticket = "" }, func(r *api.Request) { r.Ticket = sum('v') }, func(r *api.Request) { r.Ticket += "v" },
	}
	for _, f := range numbers() {
		l = append(l, func(r *api.Request) { *f.at(r) += 100 }, func(r *api.Request) { *f.at(r) = -1 })
	}
	return l
}

// P30.1: field by field, of what may not be, too.
func TestSame(t *testing.T) {
	all := []api.Request{whole(), {}, plain()}
	for _, change := range alterations() {
		all = append(all, altered(change))
	}
	for i, a := range all {
		for j, b := range all {
			if gate.Same(a, b) != (i == j) {
				t.Errorf("%d and %d: %s and %s", i, j, line(a), line(b))
			}
		}
	}
	for _, r := range wrong() {
		again := r
		again.Pieces, again.Data, again.Token.Caveats = slices.Clone(r.Pieces), bytes.Clone(r.Data), slices.Clone(r.Token.Caveats)
		if !gate.Same(r, again) {
			t.Errorf("%s and itself", line(r))
		}
	}
	empty := api.Request{Pieces: []api.Piece{}, Data: []byte{}, Token: api.Token{Caveats: []api.Caveat{}}}
	if !gate.Same(api.Request{}, empty) || !gate.Same(empty, api.Request{}) {
		t.Error("nil lists and empty ones are not the same")
	}
}

// anyRequest is a request that may be.
func anyRequest(r *rand.Rand) api.Request {
	x := api.Request{Space: name16[:r.Intn(17)], Name: sum('n')[:r.Intn(17)], Pieces: pieces(slices.Repeat([]int{1 + r.Intn(256)}, r.Intn(9))...), Data: make([]byte, r.Intn(257))}
	r.Read(x.Data)
	for _, f := range numbers() {
		*f.at(&x) = f.low + r.Intn(f.high-f.low+1)>>(r.Intn(3)*r.Intn(20))
	}
	if r.Intn(2) == 0 {
		x.Token = api.Token{Lane: r.Intn(5), ID: 1 + r.Intn(num), Epoch: r.Intn(num + 1), Tag: sum('t'), Caveats: slices.Repeat([]api.Caveat{{Kind: 6, Num: r.Intn(most)}, {Kind: 2, Name: "b"}}, r.Intn(5))}
	}
	if r.Intn(2) == 0 {
		x.Ticket = sum(byte(r.Intn(256)))
	}
	return x
}

// P30.4: Decode of Encode is the request; two have the same bytes just if they
// are the same.
func TestThereAndBack(t *testing.T) {
	r := rand.New(rand.NewSource(30))
	ahead, aheadBytes := api.Request{}, []byte(nil)
	for i := range 3000 {
		x := anyRequest(r)
		if i%3 == 1 { // one field alone differs, or none
			x = ahead
			x.Time = r.Intn(2)
		}
		b, e := gate.Encode(x)
		back, f := gate.Decode(b)
		if e != api.OK || f != api.OK || line(back) != line(x) || !gate.Same(back, x) || len(b) > api.MaxRequest {
			t.Fatalf("%s: %d; %s, %d", line(x), e, line(back), f)
		}
		if same := line(x) == line(ahead); i > 0 && (same != bytes.Equal(b, aheadBytes) || same != gate.Same(x, ahead)) {
			t.Fatalf("%s and %s: %x and %x", line(x), line(ahead), b, aheadBytes)
		}
		ahead, aheadBytes = x, b
	}
}

// wipe writes over all that r's lists have, and over the room behind them.
func wipe(r api.Request) {
	clear(r.Token.Caveats[:cap(r.Token.Caveats)])
	clear(r.Pieces[:cap(r.Pieces)])
	clear(r.Data[:cap(r.Data)])
}

// Rule R3: nothing that is handed in is changed or kept; what is answered is
// the caller's own.
func TestRequestShared(t *testing.T) {
	r := whole()
	r.Pieces, r.Data, r.Token.Caveats = append(make([]api.Piece, 0, 20), r.Pieces...), append(make([]byte, 0, 20), r.Data...), append(make([]api.Caveat, 0, 20), r.Token.Caveats...)
	b, e := gate.Encode(r)
	again, _ := gate.Encode(r)
	clear(b[:cap(b)])
	if line(r) != line(whole()) || r.Pieces[:3][2] != (api.Piece{}) || r.Data[:6][5] != 0 || r.Token.Caveats[:3][2] != (api.Caveat{}) || string(again) != strings.Join(wholeCode(), "") || e != api.OK {
		t.Errorf("it was changed: %s, %x", line(r), again)
	}
	wipe(r)
	one, _ := gate.Decode(again)
	other, _ := gate.Decode(again)
	if string(again) != strings.Join(wholeCode(), "") {
		t.Errorf("it was changed: %x", again)
	}
	clear(again)
	wipe(one)
	if line(other) != line(whole()) {
		t.Errorf("it is shared: %s", line(other))
	}
}

// P30.1, P30.4: any bytes: what is taken may be, and has just those bytes.
func FuzzDecode(f *testing.F) {
	for _, g := range good() {
		f.Add([]byte(g.b))
	}
	for at, parts := range wrongParts() {
		for part := range parts {
			code := wholeCode()
			code[at] = part
			f.Add([]byte(strings.Join(code, "")))
		}
	}
	f.Fuzz(func(t *testing.T, b []byte) {
		r, e := gate.Decode(b)
		if e != api.OK {
			if !nothing(r) || e != api.ErrShort && e != api.ErrForm && e != api.ErrLong {
				t.Errorf("%x: %s beside %d", b, line(r), e)
			}
			return
		}
		if again, e := gate.Encode(r); e != api.OK || !bytes.Equal(again, b) {
			t.Errorf("%x: %s, whose bytes are %x, %d", b, line(r), again, e)
		}
	})
}
