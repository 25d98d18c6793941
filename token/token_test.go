package token_test

import (
	"bytes"
	"encoding/hex"
	"math"
	"slices"
	"strings"
	"testing"

	"bailey/api"
	"bailey/caveat"
	"bailey/hmac"
	"bailey/pack"
	"bailey/token"
)

const (
	least    = math.MinInt
	greatest = math.MaxInt
	key      = "the key of a lane"
	bytes16  = "abcdefghij_-0189"
	bytes32  = "0123456789abcdef\x00\x01\x02\x03\x04\x05\x06\x07\xf8\xf9\xfa\xfb\xfc\xfd\xfe\xff"
)

// good are caveats that may be, one of each kind and some at their ends.
func good() []api.Caveat {
	return []api.Caveat{
		{Kind: 1, Num: 255}, {Kind: 2, Name: "a"}, {Kind: 3, Name: bytes16}, {Kind: 4, Num: 1 << 40},
		{Kind: 5, Num: 7}, {Kind: 6, Num: 300}, {Kind: 2, Name: bytes16}, {Kind: 1}, {Kind: 4, Num: 5}, {Kind: 4, Num: 5},
	}
}

// bad are caveats that may not be.
func bad() []api.Caveat {
	return []api.Caveat{
		{}, {Kind: 7}, {Kind: -1}, {Kind: 1, Num: 256}, {Kind: 1, Num: -1}, {Kind: 2}, {Kind: 2, Name: "A"}, {Kind: 2, Name: bytes16 + "x"},
		{Kind: 2, Name: "a", Num: 1}, {Kind: 4, Num: 1<<40 + 1}, {Kind: 4, Num: 5, Name: "a"}, {Kind: 5, Num: 8}, {Kind: 6, Num: -1},
	}
}

// triples are lanes, ids and epochs: each of their ends with each of the others', and what is beyond one of them.
func triples() (fit, unfit [][3]int) {
	for _, lane := range []int{least, -1, 0, 1, 4, 5, 1 << 32, greatest} {
		for _, id := range []int{least, -1, 0, 1, 2, 1 << 31, 1<<31 + 1, 1<<32 + 1, greatest} {
			for _, epoch := range []int{least, -1, 0, 1, 1 << 31, 1<<31 + 1, 1 << 32, greatest} {
				if lane >= 0 && lane <= 4 && id >= 1 && id <= 1<<31 && epoch >= 0 && epoch <= 1<<31 {
					fit = append(fit, [3]int{lane, id, epoch})
				} else {
					unfit = append(unfit, [3]int{lane, id, epoch})
				}
			}
		}
	}
	return fit, unfit
}

func minted(t *testing.T, lane, id, epoch int) api.Token {
	t.Helper()
	x, e := token.Mint(key, lane, id, epoch)
	if e != api.OK {
		t.Fatalf("Mint(%d, %d, %d): %d", lane, id, epoch, e)
	}
	return x
}

// weakened is x made weaker by each of l.
func weakened(t *testing.T, x api.Token, l ...api.Caveat) api.Token {
	t.Helper()
	for _, c := range l {
		y, e := token.Weaker(x, c)
		if e != api.OK {
			t.Fatalf("Weaker by %+v: %d", c, e)
		}
		x = y
	}
	return x
}

// nothing tells whether x is the zero token.
func nothing(x api.Token) bool { return token.Same(x, api.Token{}) }

// P8.1: which numbers may be.
func TestCheckNumbers(t *testing.T) {
	fit, unfit := triples()
	for _, n := range fit {
		if e := token.Check(api.Token{Lane: n[0], ID: n[1], Epoch: n[2], Tag: bytes32}); e != api.OK {
			t.Errorf("%v: %d", n, e)
		}
	}
	for _, n := range unfit {
		if e := token.Check(api.Token{Lane: n[0], ID: n[1], Epoch: n[2], Tag: bytes32}); e != api.ErrArg {
			t.Errorf("%v: %d", n, e)
		}
	}
	if token.Check(api.Token{}) != api.ErrArg {
		t.Error("the zero token")
	}
}

// P8.1: a tag has 32 bytes, whichever.
func TestCheckTag(t *testing.T) {
	for _, n := range []int{0, 1, 16, 31, 32, 33, 64, 288, 1 << 16} {
		want := api.ErrArg
		if n == 32 {
			want = api.OK
		}
		if e := token.Check(api.Token{ID: 1, Tag: strings.Repeat("\x00", n)}); e != want {
			t.Errorf("a tag of %d bytes: %d", n, e)
		}
	}
}

// P8.1: at most 8 caveats, wherever among them the one stands that may not be.
func TestCheckCaveats(t *testing.T) {
	for n := range 12 {
		want := api.OK
		if n > 8 {
			want = api.ErrArg
		}
		if e := token.Check(api.Token{ID: 1, Caveats: slices.Repeat(good()[4:5], n), Tag: bytes32}); e != want {
			t.Errorf("%d caveats: %d", n, e)
		}
	}
	for _, c := range bad() {
		for n := range 8 {
			for at := range n + 1 {
				l := slices.Insert(slices.Clone(good()[:n]), at, c)
				if e := token.Check(api.Token{ID: 1, Caveats: l, Tag: bytes32}); e != api.ErrArg {
					t.Errorf("%+v: %d", l, e)
				}
			}
		}
	}
}

// P8.1: the text of which a token's first tag is made, also of numbers that may not be.
func TestText(t *testing.T) {
	rows := []struct {
		lane, id, epoch int
		want            string
	}{
		{1, 2, 3, "token\x01\x02\x03"},
		{0, 0, 0, "token\x00\x00\x00"},
		{4, 300, 128, "token\x04\x82\x2c\x81\x00"},
		{4, 1 << 31, 1 << 31, "token\x04\x88\x80\x80\x80\x00\x88\x80\x80\x80\x00"},
		{-1, least, -300, "token\x00\x00\x00"},
		{greatest, 1, 1, "token\xff\xff\xff\xff\xff\xff\xff\xff\x7f\x01\x01"},
	}
	for range 2 {
		for _, r := range rows {
			got := token.Text(r.lane, r.id, r.epoch)
			if string(got) != r.want {
				t.Errorf("%+v: %x", r, got)
			}
			clear(got[:cap(got)])
		}
	}
}

// P8.2: tags that were reckoned elsewhere.
func TestKnownTags(t *testing.T) {
	x, _ := token.Mint("k", 1, 2, 3)
	y := weakened(t, x, api.Caveat{Kind: 2, Name: "a"})
	z := weakened(t, y, api.Caveat{Kind: 4, Num: 5})
	for i, row := range []struct {
		x    api.Token
		want string
	}{
		{x, "725a8afc1abfe048c17c190e1276a0f0966eb0584eb5bf3bcaee669c2f882938"},
		{y, "404409e4bc27570d391d74c4ea9f631606ead35938b1d59c57ed1b3f7dd9f81a"},
		{z, "cf86ba2a1fe273adced1ece2dae8de8f4aa102fa4a20e7955557a737cce2da00"},
	} {
		if got := hex.EncodeToString([]byte(row.x.Tag)); got != row.want || !token.Open("k", row.x) {
			t.Errorf("%d caveats: %s", i, got)
		}
	}
}

// P8.2: what is minted of numbers that may be, and nothing of others.
func TestMint(t *testing.T) {
	fit, unfit := triples()
	for _, k := range []string{"", key, strings.Repeat("k", 100)} {
		for _, n := range fit {
			x, e := token.Mint(k, n[0], n[1], n[2])
			want := api.Token{Lane: n[0], ID: n[1], Epoch: n[2], Tag: hmac.Tag(k, token.Text(n[0], n[1], n[2]))}
			if e != api.OK || !token.Same(x, want) || token.Check(x) != api.OK || !token.Open(k, x) {
				t.Errorf("%v: %+v, %d", n, x, e)
			}
		}
		for _, n := range unfit {
			if x, e := token.Mint(k, n[0], n[1], n[2]); e != api.ErrArg || !nothing(x) {
				t.Errorf("%v: %+v, %d", n, x, e)
			}
		}
	}
}

// P8.2: a token with one caveat more, up to eight.
func TestWeaker(t *testing.T) {
	for _, n := range [][3]int{{0, 1, 0}, {3, 2, 1}, {4, 1 << 31, 1 << 31}} {
		x := minted(t, n[0], n[1], n[2])
		for i, c := range good()[:8] {
			y, e := token.Weaker(x, c)
			want := api.Token{Lane: n[0], ID: n[1], Epoch: n[2], Caveats: good()[:i+1], Tag: hmac.Tag(x.Tag, caveat.Put(nil, c))}
			if e != api.OK || !token.Same(y, want) || token.Check(y) != api.OK {
				t.Fatalf("caveat %d: %+v, %d", i, y, e)
			}
			x = y
		}
		for _, c := range good() {
			if y, e := token.Weaker(x, c); e != api.ErrFull || !nothing(y) {
				t.Errorf("a ninth caveat %+v: %+v, %d", c, y, e)
			}
		}
	}
}

// P8.2, rule R1: a token or a caveat that may not be, ahead of a token that is full.
func TestWeakerOfWrong(t *testing.T) {
	full := weakened(t, minted(t, 1, 2, 3), good()[:8]...)
	for _, x := range []api.Token{minted(t, 1, 2, 3), full} {
		for _, c := range bad() {
			if y, e := token.Weaker(x, c); e != api.ErrArg || !nothing(y) {
				t.Errorf("by %+v: %+v, %d", c, y, e)
			}
		}
		for i, w := range wrongTokens(x) {
			if y, e := token.Weaker(w, good()[0]); e != api.ErrArg || !nothing(y) {
				t.Errorf("wrong token %d: %+v, %d", i, y, e)
			}
		}
	}
}

// wrongTokens are tokens that may not be, each for one field of x that was changed.
func wrongTokens(x api.Token) []api.Token {
	l := []api.Token{{}}
	for _, change := range []func(x *api.Token){
		func(x *api.Token) { x.Lane = -1 },
		func(x *api.Token) { x.Lane = 5 },
		func(x *api.Token) { x.ID = 0 },
		func(x *api.Token) { x.ID = -1 },
		func(x *api.Token) { x.ID = 1<<31 + 1 },
		func(x *api.Token) { x.Epoch = -1 },
		func(x *api.Token) { x.Epoch = 1<<31 + 1 },
		func(x *api.Token) { x.Tag = "" },
		func(x *api.Token) { x.Tag = x.Tag[:31] },
		func(x *api.Token) { x.Tag += "\x00" },
		func(x *api.Token) { x.Caveats = slices.Repeat(good()[:1], 9) },
		func(x *api.Token) { x.Caveats = []api.Caveat{{}} },
		func(x *api.Token) { x.Caveats = []api.Caveat{good()[0], {Kind: 5, Num: 8}} },
	} {
		y := x
		change(&y)
		l = append(l, y)
	}
	return l
}

// Rule R3: the token that was made weaker stays, and has nothing in common with what came of it.
func TestWeakerSharesNothing(t *testing.T) {
	room := append(make([]api.Caveat, 0, 8), good()[:2]...)
	x := minted(t, 1, 2, 3)
	x.Caveats, x.Tag = room, token.Chain(x.Tag, room)
	kept := x
	y, z := weakened(t, x, good()[2]), weakened(t, x, good()[3])
	if !slices.Equal(y.Caveats, good()[:3]) || z.Caveats[2] != good()[3] || !token.Open(key, y) || !token.Open(key, z) {
		t.Errorf("%+v, %+v", y, z)
	}
	clear(y.Caveats[:cap(y.Caveats)])
	if !slices.Equal(room[:8], append(slices.Clone(good()[:2]), make([]api.Caveat, 6)...)) || !token.Same(x, kept) || !token.Open(key, z) {
		t.Errorf("changed: %+v", room[:8])
	}
}

// P8.2: a chain of tags, of whatever tag and caveats; one that may not be has no bytes.
func TestChain(t *testing.T) {
	for _, tag := range []string{"", "a", bytes32, strings.Repeat("t", 65)} {
		if token.Chain(tag, nil) != tag || token.Chain(tag, []api.Caveat{}) != tag {
			t.Errorf("of none: not %q", tag)
		}
		want := tag
		for i, c := range good() {
			want = hmac.Tag(want, caveat.Put(nil, c))
			if got := token.Chain(tag, good()[:i+1]); got != want {
				t.Errorf("of %d: %x", i+1, got)
			}
		}
		for _, c := range bad() {
			if got := token.Chain(tag, []api.Caveat{c}); got != hmac.Tag(tag, nil) {
				t.Errorf("of %+v: %x", c, got)
			}
		}
	}
}

// P8.5: caveat by caveat, and all at once, from the same token.
func TestWeakerIsAsChain(t *testing.T) {
	for n := range 9 {
		for from := range good() {
			var l []api.Caveat
			for i := range n {
				l = append(l, good()[(from+3*i)%len(good())])
			}
			x := minted(t, 2, 7, 9)
			y := weakened(t, x, l...)
			x.Caveats, x.Tag = l, token.Chain(x.Tag, l)
			if !token.Same(x, y) || !token.Open(key, x) {
				t.Errorf("%+v: %+v, %+v", l, x, y)
			}
		}
	}
	a, b := good()[1], good()[2]
	if token.Chain(bytes32, []api.Caveat{a, b}) == token.Chain(bytes32, []api.Caveat{b, a}) {
		t.Error("the order does not count")
	}
}

// P8.4: what was minted and made weaker opens with its key, and no other one.
func TestOpen(t *testing.T) {
	fit, _ := triples()
	for _, n := range fit {
		x := minted(t, n[0], n[1], n[2])
		for _, c := range good()[:8] {
			if !token.Open(key, x) {
				t.Errorf("%+v: no", x)
			}
			for _, other := range []string{"", key[1:], key + "x", strings.ToUpper(key), x.Tag} {
				if token.Open(other, x) {
					t.Errorf("%+v with %q: yes", x, other)
				}
			}
			x = weakened(t, x, c)
		}
		if len(x.Caveats) != 8 || !token.Open(key, x) {
			t.Errorf("%+v: no", x)
		}
	}
}

// P8.2: a token of which one thing was changed does not open.
func TestOpenOfChanged(t *testing.T) {
	whole := weakened(t, minted(t, 1, 2, 3), good()[:4]...)
	for i, change := range []func(x *api.Token){
		func(x *api.Token) { x.Lane = 2 },
		func(x *api.Token) { x.ID = 3 },
		func(x *api.Token) { x.ID = 1 },
		func(x *api.Token) { x.Epoch = 4 },
		func(x *api.Token) { x.Epoch = 2 },
		func(x *api.Token) { x.ID, x.Epoch = 3, 2 },
		func(x *api.Token) { x.Caveats = nil },
		func(x *api.Token) { x.Caveats = good()[:3] },
		func(x *api.Token) { x.Caveats = good()[1:4] },
		func(x *api.Token) { x.Caveats = good()[:5] },
		func(x *api.Token) { x.Caveats[0].Num = 254 },
		func(x *api.Token) { x.Caveats[1].Name = "b" },
		func(x *api.Token) { x.Caveats[1].Kind = 3 },
		func(x *api.Token) { x.Caveats[0], x.Caveats[1] = x.Caveats[1], x.Caveats[0] },
		func(x *api.Token) { x.Tag = hmac.Tag(key, token.Text(1, 2, 3)) },
		func(x *api.Token) { x.Tag = token.Chain(x.Tag, good()[4:5]) },
		func(x *api.Token) { x.Tag = bytes32 },
	} {
		x := whole
		x.Caveats = slices.Clone(whole.Caveats)
		if !token.Open(key, x) {
			t.Fatal("it does not open")
		}
		if change(&x); token.Open(key, x) {
			t.Errorf("change %d: %+v opens", i, x)
		}
	}
}

// P8.2: what may not be does not open, though its tag is the chain's.
func TestOpenOfWrong(t *testing.T) {
	_, unfit := triples()
	for _, n := range unfit {
		if token.Open(key, api.Token{Lane: n[0], ID: n[1], Epoch: n[2], Tag: hmac.Tag(key, token.Text(n[0], n[1], n[2]))}) {
			t.Errorf("%v opens", n)
		}
	}
	first := minted(t, 1, 2, 3).Tag
	for _, l := range [][]api.Caveat{slices.Repeat(good()[:1], 9), good(), bad()[:1], {good()[0], bad()[3]}} {
		if token.Open(key, api.Token{Lane: 1, ID: 2, Epoch: 3, Caveats: l, Tag: token.Chain(first, l)}) {
			t.Errorf("%+v opens", l)
		}
	}
	if token.Open("", api.Token{}) || token.Open(key, api.Token{}) {
		t.Error("the zero token opens")
	}
}

// P8.6: no other tag opens: none with a bit turned, none of another length.
func TestOneTagAlone(t *testing.T) {
	for _, x := range []api.Token{minted(t, 0, 1, 0), weakened(t, minted(t, 4, 5, 6), good()[:8]...)} {
		tag := x.Tag
		for i := range 8 * len(tag) {
			turned := []byte(tag)
			turned[i/8] ^= 1 << (i % 8)
			if x.Tag = string(turned); token.Open(key, x) {
				t.Errorf("bit %d turned: it opens", i)
			}
		}
		for _, other := range []string{"", tag[:31], tag[1:], tag + "\x00", "\x00" + tag, tag + tag, strings.ToUpper(tag) + "x"} {
			if x.Tag = other; token.Open(key, x) {
				t.Errorf("the tag %x opens", other)
			}
		}
		if x.Tag = tag; !token.Open(key, x) {
			t.Error("its own tag does not open")
		}
	}
}

// P8.3: field by field; tokens that may not be, too.
func TestSame(t *testing.T) {
	whole := api.Token{Lane: 1, ID: 2, Epoch: 3, Caveats: good()[:2], Tag: bytes32}
	if !token.Same(whole, api.Token{Lane: 1, ID: 2, Epoch: 3, Caveats: good()[:2], Tag: bytes32}) || !token.Same(whole, whole) {
		t.Error("the same are not")
	}
	if !token.Same(api.Token{}, api.Token{Caveats: []api.Caveat{}}) || !token.Same(api.Token{Lane: -7, Tag: "x"}, api.Token{Lane: -7, Tag: "x"}) {
		t.Error("no list and an empty one, or such as may not be, are not the same")
	}
	for _, x := range []api.Token{
		{},
		{Lane: 2, ID: 2, Epoch: 3, Caveats: good()[:2], Tag: bytes32},
		{Lane: 1, ID: 3, Epoch: 3, Caveats: good()[:2], Tag: bytes32},
		{Lane: 1, ID: 2, Epoch: 2, Caveats: good()[:2], Tag: bytes32},
		{Lane: 1, ID: 3, Epoch: 2, Caveats: good()[:2], Tag: bytes32},
		{Lane: 1, ID: 2, Epoch: 3, Tag: bytes32},
		{Lane: 1, ID: 2, Epoch: 3, Caveats: good()[:1], Tag: bytes32},
		{Lane: 1, ID: 2, Epoch: 3, Caveats: good()[:3], Tag: bytes32},
		{Lane: 1, ID: 2, Epoch: 3, Caveats: []api.Caveat{good()[1], good()[0]}, Tag: bytes32},
		{Lane: 1, ID: 2, Epoch: 3, Caveats: good()[:2]},
		{Lane: 1, ID: 2, Epoch: 3, Caveats: good()[:2], Tag: bytes32[:31]},
		{Lane: 1, ID: 2, Epoch: 3, Caveats: good()[:2], Tag: bytes32[:31] + "\xfe"},
	} {
		if token.Same(whole, x) || token.Same(x, whole) {
			t.Errorf("%+v is the same", x)
		}
	}
}

// coded are tokens and their bytes.
func coded() []struct {
	x api.Token
	b string
} {
	many := slices.Repeat([]api.Caveat{{Kind: 4, Num: 5}}, 8)
	return []struct {
		x api.Token
		b string
	}{
		{api.Token{ID: 1, Tag: bytes32}, "\x00\x01\x00\x00\x20" + bytes32},
		{api.Token{Lane: 4, ID: 1 << 31, Epoch: 1 << 31, Tag: bytes32}, "\x04\x88\x80\x80\x80\x00\x88\x80\x80\x80\x00\x00\x20" + bytes32},
		{api.Token{Lane: 1, ID: 300, Epoch: 127, Caveats: good()[1:2], Tag: bytes32}, "\x01\x82\x2c\x7f\x01\x02\x01a\x20" + bytes32},
		{api.Token{Lane: 1, ID: 2, Epoch: 3, Caveats: good()[:3], Tag: bytes32}, "\x01\x02\x03\x03\x01\x81\x7f\x02\x01a\x03\x10" + bytes16 + "\x20" + bytes32},
		{api.Token{Lane: 1, ID: 2, Epoch: 3, Caveats: many, Tag: bytes32}, "\x01\x02\x03\x08" + strings.Repeat("\x04\x05", 8) + "\x20" + bytes32},
	}
}

// P8.3: a token's bytes, behind others; just the others of one that may not be.
func TestPut(t *testing.T) {
	for _, before := range []string{"", "xy"} {
		for _, c := range coded() {
			if got := token.Put([]byte(before), c.x); string(got) != before+c.b {
				t.Errorf("Put(%q, %+v) = %x", before, c.x, got)
			}
			for i, w := range wrongTokens(c.x) {
				if got := token.Put([]byte(before), w); string(got) != before {
					t.Errorf("Put(%q, wrong token %d) = %x", before, i, got)
				}
			}
		}
	}
	if got := token.Put(nil, coded()[0].x); string(got) != coded()[0].b || len(token.Put(nil, api.Token{})) != 0 {
		t.Errorf("behind nil: %x", got)
	}
}

// Rule R3: the bytes ahead stay, with the room behind them, and are not in the answer.
func TestPutSharesNothing(t *testing.T) {
	for _, x := range []api.Token{coded()[0].x, coded()[4].x, {}} {
		room := []byte(strings.Repeat("room", 100))
		out := token.Put(room[:3], x)
		out = out[:cap(out)]
		for i := range out {
			out[i] = 'Z'
		}
		if string(room) != strings.Repeat("room", 100) {
			t.Errorf("Put of %+v changed %q", x, room)
		}
	}
}

// P8.3: what was put is read, and what stands behind it is left.
func TestRead(t *testing.T) {
	for _, tail := range []string{"", "\x00", "\x80", "tail", "\xff\xff"} {
		for _, c := range coded() {
			r := pack.Open([]byte(c.b + tail))
			if got := token.Read(r); !token.Same(got, c.x) || r.Err() != api.OK || r.Left() != len(tail) {
				t.Errorf("of %x: %+v, %d, %d left", c.b, got, r.Err(), r.Left())
			}
			if e := r.End(); (e == api.OK) != (tail == "") || tail != "" && e != api.ErrForm {
				t.Errorf("with %q left: %d", tail, e)
			}
		}
	}
}

// P8.3: one token behind the other.
func TestReadMany(t *testing.T) {
	var b []byte
	for _, c := range coded() {
		b = token.Put(b, c.x)
	}
	r := pack.Open(b)
	for _, c := range coded() {
		if got := token.Read(r); !token.Same(got, c.x) {
			t.Errorf("%+v, %d", got, r.Err())
		}
	}
	if r.End() != api.OK {
		t.Error(r.End())
	}
}

// P8.3: bytes that end too early, at whichever byte.
func TestReadTooShort(t *testing.T) {
	for _, c := range coded() {
		for cut := range c.b {
			r := pack.Open([]byte(c.b[:cut]))
			if got := token.Read(r); !nothing(got) || r.Err() != api.ErrShort || r.Left() != 0 {
				t.Errorf("the first %d bytes of %x: %+v, %d", cut, c.b, got, r.Err())
			}
		}
	}
}

// P8.3, rule R7: the first error of what is no token; the zero token, and nothing left.
func TestReadWrong(t *testing.T) {
	tag := "\x20" + bytes32
	for _, w := range []struct {
		b string
		e api.Errno
	}{
		{"\x05\x01\x00\x00" + tag, api.ErrLong},
		{"\x7f\x01\x00\x00" + tag, api.ErrLong},
		{"\x80\x01\x00\x00" + tag, api.ErrForm},
		{"\x00\x88\x80\x80\x80\x01\x00\x00" + tag, api.ErrLong},
		{"\x00\x80\x01\x00\x00" + tag, api.ErrForm},
		{"\x00\x01\x88\x80\x80\x80\x01\x00" + tag, api.ErrLong},
		{"\x00\x01\x80\x01\x00" + tag, api.ErrForm},
		{"\x00\x01\xff\xff\xff\xff\xff\xff\xff\xff\xff\x00" + tag, api.ErrForm},
		{"\x00\x00\x00\x00" + tag, api.ErrForm},
		{"\x00\x00\x00\x00", api.ErrShort},
		{"\x00\x00\x00\x09" + tag, api.ErrLong},
		{"\x00\x01\x00\x09" + strings.Repeat("\x04\x05", 9) + tag, api.ErrLong},
		{"\x00\x01\x00\x80" + tag, api.ErrForm},
		{"\x00\x01\x00\x01\x00" + tag, api.ErrForm},
		{"\x00\x01\x00\x01\x07\x00" + tag, api.ErrLong},
		{"\x00\x01\x00\x01\x05\x08" + tag, api.ErrLong},
		{"\x00\x01\x00\x02\x05\x07\x02\x01A" + tag, api.ErrForm},
		{"\x00\x01\x00\x02\x02\x01A\x05\x08" + tag, api.ErrForm},
		{"\x00\x01\x00\x01\x02\x11" + bytes16 + "a" + tag, api.ErrLong},
		{"\x00\x01\x00\x01\x04\x05", api.ErrShort},
		{"\x00\x01\x00\x00\x00", api.ErrForm},
		{"\x00\x01\x00\x00\x1f" + bytes32[:31], api.ErrForm},
		{"\x00\x01\x00\x00\x1f" + bytes32, api.ErrForm},
		{"\x00\x01\x00\x00\x20" + bytes32[:31], api.ErrShort},
		{"\x00\x01\x00\x00\x21" + bytes32 + "\x00", api.ErrLong},
		{"\x00\x01\x00\x00\x21", api.ErrLong},
		{"\x00\x01\x00\x00\x82\x2c", api.ErrLong},
		{"\x00\x01\x00\x00\x80\x20" + bytes32, api.ErrForm},
		{"\x05\x80\x80", api.ErrLong},
		{"\x00\x00\x88\x80\x80\x80\x01\x00" + tag, api.ErrLong},
	} {
		r := pack.Open([]byte(w.b))
		if got := token.Read(r); !nothing(got) || r.Err() != w.e || r.Left() != 0 {
			t.Errorf("of %x: %+v, %d, want %d", w.b, got, r.Err(), w.e)
		}
	}
}

// P8.3, rule R5: an error from before stays; a reader that no call made has no token.
func TestReadBehindAnError(t *testing.T) {
	r := pack.Open([]byte(coded()[0].b))
	r.Fail(api.ErrLog)
	if got := token.Read(r); !nothing(got) || r.Err() != api.ErrLog {
		t.Errorf("%+v, %d", got, r.Err())
	}
	for name, r := range map[string]*pack.Reader{"nil": nil, "zero": {}} {
		if got := token.Read(r); !nothing(got) || r.Err() != api.ErrNil {
			t.Errorf("%s: %+v, %d", name, got, r.Err())
		}
	}
}

// Rules R3, R4: bytes that were read stay, and are not in the token; read again they are the same one.
func TestReadKeepsNothing(t *testing.T) {
	b := []byte(coded()[3].b)
	x, y := token.Read(pack.Open(b)), token.Read(pack.Open(b))
	if string(b) != coded()[3].b || !token.Same(x, y) {
		t.Errorf("changed: %x", b)
	}
	clear(b)
	clear(y.Caveats)
	if !token.Same(x, coded()[3].x) {
		t.Errorf("%+v", x)
	}
}

// P8.3: any bytes: what is taken has just those bytes, and may be.
func FuzzRead(f *testing.F) {
	for _, c := range coded() {
		f.Add([]byte(c.b), uint16(3))
	}
	f.Add([]byte("\x05\x01\x00\x00"), uint16(0))
	f.Fuzz(func(t *testing.T, b []byte, at uint16) {
		r := pack.Open(b)
		x := token.Read(r)
		if r.Err() != api.OK {
			if !nothing(x) || token.Check(x) != api.ErrArg {
				t.Errorf("%x: %+v beside %d", b, x, r.Err())
			}
			return
		}
		if token.Check(x) != api.OK || !bytes.Equal(token.Put(nil, x), b[:len(b)-r.Left()]) {
			t.Errorf("%x: %+v, whose bytes are %x", b, x, token.Put(nil, x))
		}
		// It opens if just its tag is made the chain's.
		x.Tag = token.Chain(hmac.Tag(key, token.Text(x.Lane, x.ID, x.Epoch)), x.Caveats)
		if !token.Open(key, x) {
			t.Errorf("%+v does not open", x)
		}
		turned := []byte(x.Tag)
		turned[int(at)%len(turned)] ^= 1
		if x.Tag = string(turned); token.Open(key, x) {
			t.Errorf("%+v opens", x)
		}
	})
}
