package caveat_test

import (
	"bytes"
	"math"
	"slices"
	"strings"
	"testing"

	"bailey/api"
	"bailey/caveat"
	"bailey/pack"
)

const (
	least    = math.MinInt
	greatest = math.MaxInt
	bytes16  = "abcdefghij_-0189"
)

// good are caveats that may be, at their ends and between, and their bytes.
func good() []struct {
	c api.Caveat
	b string
} {
	return []struct {
		c api.Caveat
		b string
	}{
		{api.Caveat{Kind: 1}, "\x01\x00"},
		{api.Caveat{Kind: 1, Num: 1}, "\x01\x01"},
		{api.Caveat{Kind: 1, Num: 24}, "\x01\x18"},
		{api.Caveat{Kind: 1, Num: 255}, "\x01\x81\x7f"},
		{api.Caveat{Kind: 2, Name: "a"}, "\x02\x01a"},
		{api.Caveat{Kind: 2, Name: bytes16}, "\x02\x10" + bytes16},
		{api.Caveat{Kind: 3, Name: "-"}, "\x03\x01-"},
		{api.Caveat{Kind: 3, Name: bytes16}, "\x03\x10" + bytes16},
		{api.Caveat{Kind: 4}, "\x04\x00"},
		{api.Caveat{Kind: 4, Num: 5}, "\x04\x05"},
		{api.Caveat{Kind: 4, Num: 1 << 40}, "\x04\xa0\x80\x80\x80\x80\x00"},
		{api.Caveat{Kind: 5}, "\x05\x00"},
		{api.Caveat{Kind: 5, Num: 7}, "\x05\x07"},
		{api.Caveat{Kind: 6}, "\x06\x00"},
		{api.Caveat{Kind: 6, Num: 300}, "\x06\x82\x2c"},
		{api.Caveat{Kind: 6, Num: 1 << 40}, "\x06\xa0\x80\x80\x80\x80\x00"},
	}
}

// bad are caveats that may not be.
func bad() []api.Caveat {
	l := []api.Caveat{
		{}, {Num: 1}, {Name: "a"}, {Kind: 7}, {Kind: 7, Num: 1}, {Kind: 7, Name: "a"}, {Kind: 8}, {Kind: 64}, {Kind: 257},
		{Kind: -1}, {Kind: least}, {Kind: greatest}, {Kind: 1 << 32, Num: 1}, {Kind: 1<<32 + 2, Name: "a"},
		{Kind: 1, Num: -1}, {Kind: 1, Num: 256}, {Kind: 1, Num: 1 << 32}, {Kind: 1, Num: least}, {Kind: 1, Num: greatest},
		{Kind: 4, Num: -1}, {Kind: 4, Num: 1<<40 + 1}, {Kind: 4, Num: least}, {Kind: 4, Num: greatest},
		{Kind: 5, Num: -1}, {Kind: 5, Num: 8}, {Kind: 5, Num: least}, {Kind: 5, Num: greatest},
		{Kind: 6, Num: -1}, {Kind: 6, Num: 1<<40 + 1}, {Kind: 6, Num: least}, {Kind: 6, Num: greatest},
	}
	for _, kind := range []int{1, 4, 5, 6} {
		l = append(l, api.Caveat{Kind: kind, Num: 1, Name: "a"}, api.Caveat{Kind: kind, Name: "a"}, api.Caveat{Kind: kind, Num: 1, Name: "A"})
	}
	for _, kind := range []int{2, 3} {
		for _, n := range []int{-1, 1, 255, least, greatest} {
			l = append(l, api.Caveat{Kind: kind, Num: n, Name: "a"})
		}
		for _, name := range []string{"", "A", "a b", "ab.", "\x00", "\xc3\xa9", bytes16 + "x"} {
			l = append(l, api.Caveat{Kind: kind, Name: name})
		}
	}
	return l
}

// goodOnes are the caveats of good alone.
func goodOnes() []api.Caveat {
	var l []api.Caveat
	for _, g := range good() {
		l = append(l, g.c)
	}
	return l
}

// P6.1: each byte, alone, first, in the middle and last.
func TestNameBytes(t *testing.T) {
	const allowed = "abcdefghijklmnopqrstuvwxyz0123456789-_"
	for i := range 256 {
		s := string([]byte{byte(i)})
		want := strings.Contains(allowed, s)
		for _, name := range []string{s, s + "a", "a" + s, "a" + s + "a", strings.Repeat("a", 15) + s, s + strings.Repeat("a", 15)} {
			if caveat.Name(name) != want {
				t.Errorf("Name(%q) is %t", name, !want)
			}
		}
	}
}

// P6.1: names of 0 to 17 bytes, and of more.
func TestNameLengths(t *testing.T) {
	for _, n := range []int{0, 1, 2, 15, 16, 17, 18, 32, 256, 257, 1 << 16} {
		if got := caveat.Name(strings.Repeat("a", n)); got != (n >= 1 && n <= 16) {
			t.Errorf("Name of %d bytes is %t", n, got)
		}
	}
	// Sixteen letters of two bytes each are more than sixteen bytes, and none of them is a byte of a name.
	for _, s := range []string{strings.Repeat("\u00e9", 8), strings.Repeat("\u00e9", 16), "na\u00efve", "\ufffd", "\u0430", "\uff41", "\u0661"} {
		if caveat.Name(s) {
			t.Errorf("Name(%q) is true", s)
		}
	}
}

// P6.1: what may be, and what may not.
func TestCheck(t *testing.T) {
	for _, c := range goodOnes() {
		if e := caveat.Check(c); e != api.OK {
			t.Errorf("Check(%+v) = %d", c, e)
		}
	}
	for _, c := range bad() {
		if e := caveat.Check(c); e != api.ErrArg {
			t.Errorf("Check(%+v) = %d", c, e)
		}
	}
}

// P6.1: each kind's ends; none of a kind that there is not.
func TestCheckEnds(t *testing.T) {
	mosts := map[int]int{1: 255, 4: 1 << 40, 5: 7, 6: 1 << 40}
	for kind := -2; kind <= 300; kind++ {
		most, numbered := mosts[kind]
		for _, n := range []int{least, -1, 0, 1, 6, 7, 8, 254, 255, 256, 1<<40 - 1, 1 << 40, 1<<40 + 1, greatest} {
			for _, name := range []string{"", "a", bytes16, bytes16 + "a", "A"} {
				want := api.ErrArg
				isName := name == "a" || name == bytes16
				if numbered && n >= 0 && n <= most && name == "" || (kind == 2 || kind == 3) && n == 0 && isName {
					want = api.OK
				}
				if got := caveat.Check(api.Caveat{Kind: kind, Num: n, Name: name}); got != want {
					t.Errorf("Check(%d, %d, %q) = %d, want %d", kind, n, name, got, want)
				}
			}
		}
	}
}

// P6.2: what holds and what does not, by kinds.
func TestHolds(t *testing.T) {
	rows := []struct {
		c    api.Caveat
		d    api.Deed
		want bool
	}{
		{api.Caveat{Kind: 1, Num: 255}, api.Deed{Action: 255}, true},
		{api.Caveat{Kind: 1, Num: 255}, api.Deed{Action: 0}, false},
		{api.Caveat{Kind: 1, Num: 255}, api.Deed{Action: -1}, false},
		{api.Caveat{Kind: 1, Num: 255}, api.Deed{Action: -256}, false},
		{api.Caveat{Kind: 1, Num: 255}, api.Deed{Action: 256}, false},
		{api.Caveat{Kind: 1, Num: 255}, api.Deed{Action: 257}, false},
		{api.Caveat{Kind: 1, Num: 255}, api.Deed{Action: 1<<32 + 1}, false},
		{api.Caveat{Kind: 1, Num: 255}, api.Deed{Action: least}, false},
		{api.Caveat{Kind: 1, Num: 0}, api.Deed{Action: 0}, false},
		{api.Caveat{Kind: 1, Num: 0}, api.Deed{Action: 1}, false},
		{api.Caveat{Kind: 1, Num: 8}, api.Deed{Action: 24}, false},
		{api.Caveat{Kind: 1, Num: 24}, api.Deed{Action: 24}, true},
		{api.Caveat{Kind: 1, Num: 8}, api.Deed{Action: 8, Time: 1 << 41, Client: 9, Bytes: 1 << 41, Space: "b", Snap: "c"}, true},
		{api.Caveat{Kind: 2, Name: "a"}, api.Deed{Space: "a"}, true},
		{api.Caveat{Kind: 2, Name: "a"}, api.Deed{Space: "a", Snap: "b", Action: -1, Time: 9, Client: 9, Bytes: 9}, true},
		{api.Caveat{Kind: 2, Name: "a"}, api.Deed{Space: "b", Snap: "a"}, false},
		{api.Caveat{Kind: 2, Name: "a"}, api.Deed{Snap: "a"}, false},
		{api.Caveat{Kind: 2, Name: "a"}, api.Deed{Space: "ab"}, false},
		{api.Caveat{Kind: 2, Name: "ab"}, api.Deed{Space: "a"}, false},
		{api.Caveat{Kind: 2, Name: "a"}, api.Deed{Space: "A"}, false},
		{api.Caveat{Kind: 3, Name: "a"}, api.Deed{Snap: "a"}, true},
		{api.Caveat{Kind: 3, Name: "a"}, api.Deed{Snap: "a", Space: "b"}, true},
		{api.Caveat{Kind: 3, Name: "a"}, api.Deed{Snap: "b", Space: "a"}, false},
		{api.Caveat{Kind: 3, Name: "a"}, api.Deed{Space: "a"}, false},
		{api.Caveat{Kind: 4, Num: 5}, api.Deed{Time: 5, Bytes: 9}, true},
		{api.Caveat{Kind: 4, Num: 5}, api.Deed{Time: 4}, true},
		{api.Caveat{Kind: 4, Num: 5}, api.Deed{Time: 6}, false},
		{api.Caveat{Kind: 4, Num: 5}, api.Deed{Time: -1}, true},
		{api.Caveat{Kind: 4, Num: 0}, api.Deed{Time: 0}, true},
		{api.Caveat{Kind: 4, Num: 1 << 40}, api.Deed{Time: 1 << 40}, true},
		{api.Caveat{Kind: 4, Num: 1 << 40}, api.Deed{Time: 1<<40 + 1}, false},
		{api.Caveat{Kind: 4, Num: 1 << 40}, api.Deed{Time: greatest}, false},
		{api.Caveat{Kind: 5, Num: 3}, api.Deed{Client: 3}, true},
		{api.Caveat{Kind: 5, Num: 3}, api.Deed{Client: 2}, false},
		{api.Caveat{Kind: 5, Num: 3}, api.Deed{Client: 4}, false},
		{api.Caveat{Kind: 5, Num: 0}, api.Deed{}, true},
		{api.Caveat{Kind: 5, Num: 0}, api.Deed{Client: -1}, false},
		{api.Caveat{Kind: 5, Num: 7}, api.Deed{Client: 7}, true},
		{api.Caveat{Kind: 6, Num: 10}, api.Deed{Bytes: 10, Time: 99}, true},
		{api.Caveat{Kind: 6, Num: 10}, api.Deed{Bytes: 9}, true},
		{api.Caveat{Kind: 6, Num: 10}, api.Deed{Bytes: 11}, false},
		{api.Caveat{Kind: 6, Num: 10}, api.Deed{Bytes: -1}, true},
		{api.Caveat{Kind: 6, Num: 0}, api.Deed{Bytes: 1}, false},
		{api.Caveat{Kind: 6, Num: 0}, api.Deed{}, true},
		{api.Caveat{Kind: 6, Num: 1 << 40}, api.Deed{Bytes: 1<<40 + 1}, false},
	}
	for _, r := range rows {
		if got := caveat.Holds(r.c, r.d); got != r.want {
			t.Errorf("Holds(%+v, %+v) = %t", r.c, r.d, got)
		}
	}
}

// P6.2: every set of actions against every action.
func TestHoldsActions(t *testing.T) {
	for num := range 256 {
		for action := -3; action <= 515; action++ {
			want := action >= 1 && action <= 255
			for bit := 1; bit <= 128; bit *= 2 {
				want = want && (action/bit%2 == 0 || num/bit%2 == 1)
			}
			if got := caveat.Holds(api.Caveat{Kind: 1, Num: num}, api.Deed{Action: action}); got != want {
				t.Fatalf("of the actions %d, Holds of %d is %t", num, action, got)
			}
		}
	}
}

// P6.2: what may not be allows nothing, though it would if it were looked at no further.
func TestHoldsOfBad(t *testing.T) {
	for _, c := range bad() {
		for _, d := range []api.Deed{
			{},
			{Action: 1, Time: 0, Client: c.Num, Bytes: 0, Space: c.Name, Snap: c.Name},
			{Action: 1, Time: c.Num, Client: c.Num, Bytes: c.Num, Space: c.Name, Snap: c.Name},
			{Action: 1, Time: least, Client: c.Num, Bytes: least, Space: c.Name, Snap: c.Name},
		} {
			if caveat.Holds(c, d) || caveat.All([]api.Caveat{c}, d) {
				t.Errorf("Holds(%+v, %+v)", c, d)
			}
		}
	}
}

// P6.2: all of them must hold, wherever the one stands that does not.
func TestAll(t *testing.T) {
	d := api.Deed{Action: 8, Time: 5, Client: 2, Bytes: 10, Space: "s", Snap: "n"}
	hold := []api.Caveat{{Kind: 1, Num: 8}, {Kind: 2, Name: "s"}, {Kind: 3, Name: "n"}, {Kind: 4, Num: 5}, {Kind: 5, Num: 2}, {Kind: 6, Num: 10}}
	fail := []api.Caveat{{Kind: 1, Num: 7}, {Kind: 2, Name: "n"}, {Kind: 3, Name: "s"}, {Kind: 4, Num: 4}, {Kind: 5, Num: 3}, {Kind: 6, Num: 9}, {}, {Kind: 7}, {Kind: 4, Num: 5, Name: "s"}}
	if !caveat.All(nil, d) || !caveat.All([]api.Caveat{}, d) || !caveat.All(nil, api.Deed{}) {
		t.Error("of none: no")
	}
	if !caveat.All(hold, d) || caveat.All(hold, api.Deed{}) {
		t.Error("all that hold")
	}
	for _, f := range fail {
		for at := range len(hold) + 1 {
			if l := slices.Insert(slices.Clone(hold), at, f); caveat.All(l, d) {
				t.Errorf("All(%+v)", l)
			}
		}
	}
	if long := slices.Repeat(hold, 50); !caveat.All(long, d) || caveat.All(append(long, fail[0]), d) {
		t.Error("of many")
	}
}

// P6.5: one more caveat never allows more; it takes just what it does not allow itself.
func TestMoreCaveatsAllowNoMore(t *testing.T) {
	var deeds []api.Deed
	for _, action := range []int{-1, 0, 1, 24, 255, 256} {
		for _, n := range []int{-1, 0, 5, 7, 8, 300, 1<<40 + 1} {
			for _, name := range []string{"", "a", bytes16} {
				deeds = append(deeds, api.Deed{Action: action, Time: n, Client: n, Bytes: n, Space: name, Snap: "a"},
					api.Deed{Action: action, Time: n, Client: 0, Bytes: 0, Space: "a", Snap: name})
			}
		}
	}
	cs := append(goodOnes(), bad()...)
	for _, d := range deeds {
		for _, a := range cs {
			for _, b := range cs {
				one, other := caveat.All([]api.Caveat{a}, d), caveat.All([]api.Caveat{b}, d)
				if caveat.All([]api.Caveat{a, b}, d) != (one && other) || caveat.All([]api.Caveat{b, a}, d) != (one && other) {
					t.Fatalf("%+v and %+v of %+v: not %t", a, b, d, one && other)
				}
			}
		}
	}
}

// P6.3: a caveat's bytes, behind others; just the others of one that may not be.
func TestPut(t *testing.T) {
	for _, before := range []string{"", "xy"} {
		for _, g := range good() {
			if got := caveat.Put([]byte(before), g.c); string(got) != before+g.b {
				t.Errorf("Put(%q, %+v) = %x", before, g.c, got)
			}
		}
		for _, c := range bad() {
			if got := caveat.Put([]byte(before), c); string(got) != before {
				t.Errorf("Put(%q, %+v) = %x", before, c, got)
			}
		}
	}
	if len(caveat.Put(nil, api.Caveat{})) != 0 || string(caveat.Put(nil, goodOnes()[1])) != "\x01\x01" {
		t.Error("Put behind nil")
	}
}

// P6.3, rule R3: what is handed in stays, with the room behind it, and is not in the answer.
func TestPutSharesNothing(t *testing.T) {
	for _, c := range append(goodOnes(), bad()...) {
		room := []byte("abcdefghijklmnopqrstuvwxyz")
		out := caveat.Put(room[:3], c)
		out = out[:cap(out)]
		for i := range out {
			out[i] = 'Z'
		}
		if string(room) != "abcdefghijklmnopqrstuvwxyz" {
			t.Errorf("Put of %+v changed %q", c, room)
		}
	}
}

// P6.3: what is read, and where the reader stands behind it.
func TestRead(t *testing.T) {
	for _, tail := range []string{"", "\x00", "\x80", "tail"} {
		for _, g := range good() {
			r := pack.Open([]byte(g.b + tail))
			if got := caveat.Read(r); got != g.c || r.Err() != api.OK || r.Left() != len(tail) {
				t.Errorf("of %x: %+v, %d, %d left", g.b, got, r.Err(), r.Left())
			}
		}
	}
}

// wrong are bytes that no caveat has, and what is wrong with them.
func wrong() []struct {
	b string
	e api.Errno
} {
	return []struct {
		b string
		e api.Errno
	}{
		{"", api.ErrShort},
		{"\x00", api.ErrForm},
		{"\x00\x01", api.ErrForm},
		{"\x07", api.ErrLong},
		{"\x07\x01", api.ErrLong},
		{"\x7f", api.ErrLong},
		{"\x81\x00", api.ErrLong},
		{"\x81\x01\x01", api.ErrLong},
		{"\x80\x01", api.ErrForm},
		{"\x81", api.ErrShort},
		{"\xff\xff\xff\xff\xff\xff\xff\xff\x7f", api.ErrLong},
		{"\xff\xff\xff\xff\xff\xff\xff\xff\xff", api.ErrForm},
		{"\x01", api.ErrShort},
		{"\x01\x82", api.ErrShort},
		{"\x01\x82\x00", api.ErrLong},
		{"\x01\x82\x01", api.ErrLong},
		{"\x01\x80\x01", api.ErrForm},
		{"\x04", api.ErrShort},
		{"\x04\xa0\x80\x80\x80\x80", api.ErrShort},
		{"\x04\xa0\x80\x80\x80\x80\x01", api.ErrLong},
		{"\x05", api.ErrShort},
		{"\x05\x08", api.ErrLong},
		{"\x05\x80", api.ErrForm},
		{"\x06", api.ErrShort},
		{"\x06\xa0\x80\x80\x80\x80\x01", api.ErrLong},
		{"\x06\xff\xff\xff\xff\xff\xff\xff\xff\x7f", api.ErrLong},
		{"\x02", api.ErrShort},
		{"\x02\x00", api.ErrForm},
		{"\x02\x01", api.ErrShort},
		{"\x02\x02a", api.ErrShort},
		{"\x02\x01A", api.ErrForm},
		{"\x02\x02a ", api.ErrForm},
		{"\x02\x02\xc3\xa9", api.ErrForm},
		{"\x02\x10abcdefghijklmno", api.ErrShort},
		{"\x02\x10abcdefghijklmnoP", api.ErrForm},
		{"\x02\x11", api.ErrLong},
		{"\x02\x11abcdefghijklmnopq", api.ErrLong},
		{"\x02\x80\x01a", api.ErrForm},
		{"\x03", api.ErrShort},
		{"\x03\x00", api.ErrForm},
		{"\x03\x01", api.ErrShort},
		{"\x03\x01.", api.ErrForm},
		{"\x03\x11abcdefghijklmnopq", api.ErrLong},
	}
}

// P6.3, rule R7: the first error of what is no caveat; the zero caveat, and nothing left.
func TestReadWrong(t *testing.T) {
	for _, w := range wrong() {
		r := pack.Open([]byte(w.b))
		if got := caveat.Read(r); got != (api.Caveat{}) || r.Err() != w.e || r.Left() != 0 {
			t.Errorf("of %x: %+v, %d, want %d", w.b, got, r.Err(), w.e)
		}
	}
}

// P6.3, rule R5: an error from before stays; a reader that no call made has no caveat.
func TestReadBehindAnError(t *testing.T) {
	r := pack.Open([]byte("\x04\x05"))
	r.Fail(api.ErrLog)
	if got := caveat.Read(r); got != (api.Caveat{}) || r.Err() != api.ErrLog {
		t.Errorf("%+v, %d", got, r.Err())
	}
	r = pack.Open([]byte("\x04"))
	caveat.Read(r)
	if got := caveat.Read(r); got != (api.Caveat{}) || r.Err() != api.ErrShort {
		t.Errorf("%+v, %d", got, r.Err())
	}
	for name, r := range map[string]*pack.Reader{"nil": nil, "zero": {}} {
		if got := caveat.Read(r); got != (api.Caveat{}) || r.Err() != api.ErrNil {
			t.Errorf("%s: %+v, %d", name, got, r.Err())
		}
	}
}

// P6.3: how many there are, and each one's bytes; those that may not be are counted, but have none.
func TestCode(t *testing.T) {
	until, space := api.Caveat{Kind: 4, Num: 5}, api.Caveat{Kind: 2, Name: "x"}
	rows := []struct {
		l    []api.Caveat
		want string
	}{
		{nil, "\x00"},
		{[]api.Caveat{}, "\x00"},
		{[]api.Caveat{until}, "\x01\x04\x05"},
		{[]api.Caveat{until, space}, "\x02\x04\x05\x02\x01x"},
		{[]api.Caveat{space, until}, "\x02\x02\x01x\x04\x05"},
		{[]api.Caveat{until, until}, "\x02\x04\x05\x04\x05"},
		{[]api.Caveat{{}}, "\x01"},
		{[]api.Caveat{until, {Kind: 5, Num: 8}, space}, "\x03\x04\x05\x02\x01x"},
		{slices.Repeat([]api.Caveat{until}, 8), "\x08" + strings.Repeat("\x04\x05", 8)},
		{slices.Repeat([]api.Caveat{until}, 9), "\x09" + strings.Repeat("\x04\x05", 9)},
		{slices.Repeat([]api.Caveat{until}, 300), "\x82\x2c" + strings.Repeat("\x04\x05", 300)},
	}
	for _, r := range rows {
		kept := slices.Clone(r.l)
		if got := caveat.Code(r.l); string(got) != r.want || !slices.Equal(r.l, kept) {
			t.Errorf("Code(%+v) = %x", r.l, got)
		}
	}
}

// Code must stay usable for lists of many more than a token has.
func TestCodeOfMany(t *testing.T) {
	const many = 200000
	if got := caveat.Code(slices.Repeat([]api.Caveat{{Kind: 4, Num: 5}}, many)); len(got) != pack.Size(many)+2*many {
		t.Error(len(got))
	}
}

// P6.3: lists of up to 8; the errors of all else.
func TestParse(t *testing.T) {
	rows := []struct {
		b string
		n int
		e api.Errno
	}{
		{"\x00", 0, api.OK},
		{"\x01\x04\x05", 1, api.OK},
		{"\x08" + strings.Repeat("\x04\x05", 8), 8, api.OK},
		{"\x09" + strings.Repeat("\x04\x05", 9), 0, api.ErrLong},
		{"\x09", 0, api.ErrLong},
		{"\x82\x2c" + strings.Repeat("\x04\x05", 300), 0, api.ErrLong},
		{"", 0, api.ErrShort},
		{"\x80", 0, api.ErrForm},
		{"\x80\x01\x04\x05", 0, api.ErrForm},
		{"\x81", 0, api.ErrShort},
		{"\x01", 0, api.ErrShort},
		{"\x02\x04\x05", 0, api.ErrShort},
		{"\x08" + strings.Repeat("\x04\x05", 7), 0, api.ErrShort},
		{"\x08" + strings.Repeat("\x04\x05", 7) + "\x04", 0, api.ErrShort},
		{"\x00\x00", 0, api.ErrForm},
		{"\x00\x04\x05", 0, api.ErrForm},
		{"\x01\x04\x05\x00", 0, api.ErrForm},
		{"\x08" + strings.Repeat("\x04\x05", 9), 0, api.ErrForm},
		{"\x02\x04\x05\x05\x08", 0, api.ErrLong},
		{"\x02\x07\x05\x00", 0, api.ErrLong},
		{"\x03\x00\x07", 0, api.ErrForm},
		{"\x02\x05\x08\x00\x00", 0, api.ErrLong},
	}
	for _, r := range rows {
		l, e := caveat.Parse([]byte(r.b))
		if len(l) != r.n || e != r.e || e != api.OK && l != nil {
			t.Errorf("Parse(%x) = %+v, %d; want %d of them, %d", r.b, l, e, r.n, r.e)
		}
		for _, c := range l {
			if c != (api.Caveat{Kind: 4, Num: 5}) {
				t.Errorf("Parse(%x) = %+v", r.b, l)
			}
		}
	}
	for _, w := range wrong() {
		if l, e := caveat.Parse([]byte("\x02\x04\x05" + w.b)); l != nil || e != w.e {
			t.Errorf("Parse of a second one %x = %+v, %d; want %d", w.b, l, e, w.e)
		}
	}
}

// Rule R3: bytes that were parsed stay, and are not in the list.
func TestParseKeepsNothing(t *testing.T) {
	b := []byte("\x01\x02\x02ab")
	l, e := caveat.Parse(b)
	if string(b) != "\x01\x02\x02ab" {
		t.Errorf("changed: %x", b)
	}
	clear(b)
	if e != api.OK || len(l) != 1 || l[0].Name != "ab" {
		t.Error(l, e)
	}
}

// P6.4: lists of 0 to 8 of all kinds, there and back.
func TestParseOfCode(t *testing.T) {
	all := goodOnes()
	for n := range 9 {
		for from := range all {
			var l []api.Caveat
			for i := range n {
				l = append(l, all[(from+i*(n+2))%len(all)])
			}
			b := caveat.Code(l)
			back, e := caveat.Parse(b)
			if e != api.OK || !slices.Equal(back, l) || !bytes.Equal(caveat.Code(back), b) {
				t.Errorf("%+v came back as %+v, %d", l, back, e)
			}
			for cut := range b {
				if got, e := caveat.Parse(b[:cut]); got != nil || e != api.ErrShort {
					t.Errorf("the first %d bytes of %x: %+v, %d", cut, b, got, e)
				}
			}
		}
	}
}

// hasItsBytes looks whether a list that is taken has just the bytes it was taken of, and may be.
func hasItsBytes(t *testing.T, b []byte) {
	l, e := caveat.Parse(b)
	if e != api.OK {
		if l != nil {
			t.Errorf("Parse(%x) = %+v beside %d", b, l, e)
		}
		return
	}
	if !bytes.Equal(caveat.Code(l), b) || len(l) > 8 {
		t.Errorf("Parse(%x) = %+v, whose bytes are %x", b, l, caveat.Code(l))
	}
	for _, c := range l {
		if caveat.Check(c) != api.OK {
			t.Errorf("Parse(%x) took %+v", b, c)
		}
	}
}

// P6.4: of all single caveats of up to three bytes.
func TestParseTakesOneFormOnly(t *testing.T) {
	hasItsBytes(t, nil)
	for first := range 256 {
		hasItsBytes(t, []byte{byte(first)})
		for second := range 256 {
			hasItsBytes(t, []byte{1, byte(first), byte(second)})
			for _, third := range []byte{0, 1, '-', 'A', 'a', 0x7f, 0x80, 0xff} {
				hasItsBytes(t, []byte{1, byte(first), byte(second), third})
				hasItsBytes(t, []byte{byte(first), 4, byte(second), third})
			}
		}
	}
}

// P6.3: the same ones, in order, field by field.
func TestSame(t *testing.T) {
	a, b := api.Caveat{Kind: 4, Num: 5}, api.Caveat{Kind: 2, Name: "x"}
	same := [][2][]api.Caveat{{nil, nil}, {nil, {}}, {{}, nil}, {{}, {}}, {{a}, {a}}, {{a, b}, {a, b}}, {{{}}, {{}}}, {{{Kind: 9, Num: -1}}, {{Kind: 9, Num: -1}}}}
	for _, p := range same {
		if !caveat.Same(p[0], p[1]) {
			t.Errorf("Same(%+v, %+v) is false", p[0], p[1])
		}
	}
	unlike := [][2][]api.Caveat{
		{nil, {a}}, {{a}, nil}, {{a}, {b}}, {{a, b}, {b, a}}, {{a}, {a, b}}, {{a, b}, {a}}, {{a, b}, {b}}, {{a, a}, {a}}, {nil, {{}}}, {{{}}, nil},
		{{a}, {{Kind: 6, Num: 5}}}, {{a}, {{Kind: 4, Num: 6}}}, {{a}, {{Kind: 4, Num: 5, Name: "x"}}}, {{b}, {{Kind: 2, Name: "y"}}}, {{b}, {{Kind: 3, Name: "x"}}},
		{{a, b, a}, {a, b, b}},
	}
	for _, p := range unlike {
		if caveat.Same(p[0], p[1]) || caveat.Same(p[1], p[0]) {
			t.Errorf("Same(%+v, %+v) is true", p[0], p[1])
		}
	}
}

// P6.3: which lists begin with which.
func TestExtends(t *testing.T) {
	a, b := api.Caveat{Kind: 4, Num: 5}, api.Caveat{Kind: 2, Name: "x"}
	rows := []struct {
		long, short []api.Caveat
		want        bool
	}{
		{nil, nil, true}, {[]api.Caveat{}, nil, true}, {nil, []api.Caveat{}, true},
		{[]api.Caveat{a}, nil, true}, {nil, []api.Caveat{a}, false}, {nil, []api.Caveat{{}}, false},
		{[]api.Caveat{a}, []api.Caveat{a}, true}, {[]api.Caveat{a}, []api.Caveat{b}, false},
		{[]api.Caveat{a, b}, []api.Caveat{a}, true}, {[]api.Caveat{a, b}, []api.Caveat{b}, false},
		{[]api.Caveat{a, b}, []api.Caveat{a, b}, true}, {[]api.Caveat{a, b}, []api.Caveat{b, a}, false},
		{[]api.Caveat{a, b}, []api.Caveat{a, a}, false}, {[]api.Caveat{a}, []api.Caveat{a, b}, false},
		{[]api.Caveat{a, b, a}, []api.Caveat{a, b}, true}, {[]api.Caveat{a, b}, []api.Caveat{a, b, a}, false},
		{[]api.Caveat{a, {Kind: 9}}, []api.Caveat{a, {Kind: 9}}, true},
	}
	for _, r := range rows {
		if got := caveat.Extends(r.long, r.short); got != r.want {
			t.Errorf("Extends(%+v, %+v) = %t", r.long, r.short, got)
		}
	}
	// What stands in the room behind a list is not in it.
	room := []api.Caveat{a, b}
	if caveat.Extends(room[:1], room) {
		t.Error("a list was looked at beyond its end")
	}
}

// P6.3, P6.4, rule R4: any bytes, read alike twice.
func FuzzParse(f *testing.F) {
	for _, g := range good() {
		f.Add([]byte("\x01" + g.b))
	}
	for _, w := range wrong() {
		f.Add([]byte("\x02\x04\x05" + w.b))
	}
	f.Add(caveat.Code(goodOnes()[:8]))
	f.Fuzz(func(t *testing.T, b []byte) {
		hasItsBytes(t, b)
		one, oneE := caveat.Parse(b)
		other, otherE := caveat.Parse(b)
		if !slices.Equal(one, other) || oneE != otherE {
			t.Errorf("%x was read in two ways", b)
		}
	})
}
