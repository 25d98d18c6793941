package chain_test

import (
	"bytes"
	"crypto/sha256"
	"encoding/hex"
	"math"
	"math/rand"
	"slices"
	"strings"
	"testing"

	"bailey/api"
	"bailey/chain"
	"bailey/pack"
)

const (
	least    = math.MinInt
	greatest = math.MaxInt
	most     = 1 << 62
	// mostCode and belowCode are the bytes of 2^62 and of one less.
	mostCode  = "\xc0\x80\x80\x80\x80\x80\x80\x80\x00"
	belowCode = "\xbf\xff\xff\xff\xff\xff\xff\xff\x7f"
)

// head is 32 bytes, of which the first one tells them apart.
func head(first byte) string { return string([]byte{first}) + strings.Repeat("\xfe", 31) }

// summed is the library's own sum of the texts, one behind the other.
func summed(texts ...string) string {
	b := sha256.Sum256([]byte(strings.Join(texts, "")))
	return string(b[:])
}

// list is these texts, as many as there are.
func list(texts ...string) [][]byte {
	var l [][]byte
	for _, s := range texts {
		l = append(l, []byte(s))
	}
	return l
}

// copied is l in memory of its own.
func copied(l [][]byte) [][]byte {
	var out [][]byte
	for _, b := range l {
		out = append(out, bytes.Clone(b))
	}
	return out
}

// goods are chains that may be, at the edges of what may be, and their bytes.
func goods() []struct {
	c api.Chain
	b string
} {
	zero := string(make([]byte, 32))
	return []struct {
		c api.Chain
		b string
	}{
		{api.Chain{Length: 0, Head: zero}, "\x00\x20" + zero},
		{api.Chain{Length: 0, Head: head('a')}, "\x00\x20" + head('a')},
		{api.Chain{Length: 1, Head: zero}, "\x01\x20" + zero},
		{api.Chain{Length: 127, Head: head(0x80)}, "\x7f\x20" + head(0x80)},
		{api.Chain{Length: 128, Head: head(0xff)}, "\x81\x00\x20" + head(0xff)},
		{api.Chain{Length: 300, Head: head(' ')}, "\x82\x2c\x20" + head(' ')},
		{api.Chain{Length: 1 << 40, Head: head('b')}, "\xa0\x80\x80\x80\x80\x00\x20" + head('b')},
		{api.Chain{Length: most - 1, Head: head('c')}, belowCode + "\x20" + head('c')},
		{api.Chain{Length: most, Head: head('d')}, mostCode + "\x20" + head('d')},
	}
}

// wrongs are chains of which one thing may not be.
func wrongs() []api.Chain {
	l := []api.Chain{{}, {Length: 5}, {Length: -1}}
	for _, n := range []int{least, -2, -1, most + 1, greatest} {
		l = append(l, api.Chain{Length: n, Head: head('a')})
	}
	for _, n := range []int{0, 1, 16, 31, 33, 64, 300} {
		l = append(l, api.Chain{Length: 0, Head: strings.Repeat("\x00", n)}, api.Chain{Length: 5, Head: strings.Repeat("a", n)}, api.Chain{Length: most, Head: strings.Repeat("a", n)})
	}
	return l
}

// P22.1: the chain of no links.
func TestStart(t *testing.T) {
	c := chain.Start()
	if c.Length != 0 || c.Head != "\x00\x00\x00\x00\x00\x00\x00\x00\x00\x00\x00\x00\x00\x00\x00\x00\x00\x00\x00\x00\x00\x00\x00\x00\x00\x00\x00\x00\x00\x00\x00\x00" || !chain.May(c) {
		t.Errorf("%+v", c)
	}
}

// P22.1: heads that another program reckoned.
func TestKnown(t *testing.T) {
	a := chain.Link(chain.Start(), []byte("a"))
	for want, c := range map[string]api.Chain{
		"7f9c9e31ac8256ca2f258583df262dbc7d6f68f2a03043d5c99a4ae5a7396ce9": chain.Link(chain.Start(), nil),
		"6639524cc4b00bc1a42e26dabada9b84e7347e093ca1ee98985228c48499ff02": a,
		"d994787f1de13d9d76c4aca4e28f82b3df49c517741da6ae8d9b7149f461da42": chain.Link(a, []byte("b")),
	} {
		if hex.EncodeToString([]byte(c.Head)) != want {
			t.Errorf("%d, %x, not %s", c.Length, c.Head, want)
		}
	}
}

// P22.1: one more link: the sum of the head, the length ahead and the text.
func TestLink(t *testing.T) {
	for _, text := range []string{"", "a", "\x00", head('x'), strings.Repeat("b", 55), strings.Repeat("b", 64), strings.Repeat("c", 700), strings.Repeat("\xff", 5000)} {
		for code, n := range map[string]int{
			"\x00": 0, "\x01": 1, "\x7f": 127, "\x81\x00": 128, "\x82\x2c": 300,
			"\xa0\x80\x80\x80\x80\x00": 1 << 40, "\xbf\xff\xff\xff\xff\xff\xff\xff\x7e": most - 2, belowCode: most - 1,
		} {
			for _, first := range []byte{0, 'h', 0xff} {
				c := api.Chain{Length: n, Head: head(first)}
				want := api.Chain{Length: n + 1, Head: summed(head(first), code, text)}
				if got := chain.Link(c, []byte(text)); got != want || !chain.May(got) {
					t.Errorf("%d, %d bytes: %d, %x", n, len(text), got.Length, got.Head)
				}
			}
		}
	}
}

// P22.1: no length is above 2^62; the head goes on.
func TestLinkAtMost(t *testing.T) {
	full := api.Chain{Length: most, Head: head('a')}
	if got := chain.Link(full, []byte("x")); got != (api.Chain{Length: most, Head: summed(head('a'), mostCode, "x")}) {
		t.Errorf("%d, %x", got.Length, got.Head)
	}
	below := api.Chain{Length: most - 1, Head: head('a')}
	first := summed(head('a'), belowCode, "x")
	second := summed(first, mostCode, "y")
	third := summed(second, mostCode, "z")
	if got := chain.All(below, list("x", "y", "z")); got != (api.Chain{Length: most, Head: third}) {
		t.Errorf("%d, %x", got.Length, got.Head)
	}
}

// P22.1: of a chain that may not be Link answers what its words say.
func TestLinkOfWrong(t *testing.T) {
	for _, x := range []struct {
		length, want int
		code         string
	}{
		{-1, 0, "\x00"}, {-5, -4, "\x00"}, {least, least + 1, "\x00"},
		{most + 1, most, "\xc0\x80\x80\x80\x80\x80\x80\x80\x01"}, {greatest, most, "\xff\xff\xff\xff\xff\xff\xff\xff\x7f"},
	} {
		got := chain.Link(api.Chain{Length: x.length, Head: head('a')}, []byte("t"))
		if got != (api.Chain{Length: x.want, Head: summed(head('a'), x.code, "t")}) {
			t.Errorf("%d: %d, %x", x.length, got.Length, got.Head)
		}
	}
	for _, n := range []int{0, 1, 31, 33, 64, 300} {
		h := strings.Repeat("h", n)
		if got := chain.Link(api.Chain{Length: 3, Head: h}, []byte("t")); got != (api.Chain{Length: 4, Head: summed(h, "\x03", "t")}) {
			t.Errorf("a head of %d bytes: %d, %x", n, got.Length, got.Head)
		}
	}
}

// P22.1: All is Link of each, in order.
func TestAll(t *testing.T) {
	for _, from := range []api.Chain{chain.Start(), {Length: 126, Head: head('a')}, {Length: most - 2, Head: head('b')}, {Length: -2, Head: "h"}, {}} {
		for _, l := range [][][]byte{
			nil, {}, list("a"), list(""), {nil}, list("", ""), list("", "a", ""), list("a", "b", "c"), list("c", "b", "a"), list("a", "a", "a", "a"), list(strings.Repeat("x", 700), "", head('a')),
		} {
			want := from
			for _, text := range l {
				want = chain.Link(want, text)
			}
			if got := chain.All(from, l); got != want {
				t.Errorf("%q from %d: %d, %x", l, from.Length, got.Length, got.Head)
			}
		}
	}
	for _, c := range append(wrongs(), chain.Start()) {
		if got := chain.All(c, nil); got != c {
			t.Errorf("of no list: %+v, not %+v", got, c)
		}
	}
	if c := chain.All(chain.Start(), make([][]byte, 300)); c.Length != 300 || !chain.May(c) {
		t.Errorf("of 300: %+v", c)
	}
}

// P22.1: Check of the right end, and of ends that are not.
func TestCheck(t *testing.T) {
	for _, from := range []api.Chain{chain.Start(), {Length: 9, Head: head('a')}, {Length: most, Head: head('b')}, {Length: -7, Head: "short"}, {}} {
		for _, l := range [][][]byte{nil, {}, list(""), list("a"), list("a", "b", "c"), list("", "a", "")} {
			end := chain.All(from, l)
			if e := chain.Check(from, l, end); e != api.OK {
				t.Errorf("%q from %+v: %d", l, from, e)
			}
			flipped := []byte(end.Head + "h")
			flipped[0] ^= 1
			for what, wrong := range map[string]api.Chain{
				"no end":            {},
				"a length more":     {Length: end.Length + 1, Head: end.Head},
				"a length less":     {Length: end.Length - 1, Head: end.Head},
				"the least length":  {Length: least, Head: end.Head},
				"another head":      {Length: end.Length, Head: string(flipped[:len(end.Head)]) + "+"},
				"one byte flipped":  {Length: end.Length, Head: string(flipped)},
				"a longer head":     {Length: end.Length, Head: end.Head + "\x00"},
				"no head":           {Length: end.Length, Head: end.Head[:len(end.Head)/2]},
				"one link further":  chain.Link(end, nil),
				"another beginning": chain.All(api.Chain{Length: from.Length, Head: from.Head + "x"}, append(list("y"), l...)),
			} {
				if wrong == end {
					continue // half a head of none is none
				}
				if e := chain.Check(from, l, wrong); e != api.ErrChain {
					t.Errorf("%s: %q from %+v: %d", what, l, from, e)
				}
			}
		}
	}
	c := chain.Start()
	for i := range 32 {
		h := []byte(c.Head)
		h[i] = 1
		if e := chain.Check(c, nil, api.Chain{Head: string(h)}); e != api.ErrChain {
			t.Errorf("byte %d of the head: %d", i, e)
		}
		if e := chain.Check(api.Chain{Head: string(h)}, list("a"), chain.Link(c, []byte("a"))); e != api.ErrChain {
			t.Errorf("byte %d of the first head: %d", i, e)
		}
	}
}

// P22.1: Check of lists that are not the one.
func TestCheckOtherLists(t *testing.T) {
	l := list("one", "two", "", "three", "four")
	for _, from := range []api.Chain{chain.Start(), {Length: 9, Head: head('a')}, {Length: most - 2, Head: head('b')}, {Length: most, Head: head('c')}} {
		end := chain.All(from, l)
		for what, other := range map[string][][]byte{
			"none":                      nil,
			"a text more":               list("one", "two", "", "three", "four", "five"),
			"an empty text more":        list("one", "two", "", "three", "four", ""),
			"a text more ahead":         list("", "one", "two", "", "three", "four"),
			"a text less":               list("one", "two", "", "three"),
			"a text less ahead":         list("two", "", "three", "four"),
			"the empty text less":       list("one", "two", "three", "four"),
			"two changed about":         list("two", "one", "", "three", "four"),
			"the last two":              list("one", "two", "", "four", "three"),
			"the empty one":             list("one", "", "two", "three", "four"),
			"a byte to the next one":    list("on", "etwo", "", "three", "four"),
			"a byte to the one ahead":   list("onet", "wo", "", "three", "four"),
			"a byte to the empty one":   list("one", "two", "t", "hree", "four"),
			"a byte more":               list("one", "two", "", "three", "four\x00"),
			"a byte less":               list("one", "two", "", "three", "fou"),
			"another byte":              list("one", "twp", "", "three", "four"),
			"all in one":                list("onetwothreefour"),
			"the list twice":            append(copied(l), l...),
			"a text that has a link's":  list("one", "two\x02", "three", "four"),
			"the first one's own bytes": list(from.Head+"\x00one", "two", "", "three", "four"),
		} {
			if e := chain.Check(from, other, end); e != api.ErrChain {
				t.Errorf("%s from %d: %d", what, from.Length, e)
			}
		}
		if e := chain.Check(from, copied(l), end); e != api.OK {
			t.Errorf("the list itself from %d: %d", from.Length, e)
		}
		for _, other := range []api.Chain{{Length: from.Length + 1, Head: from.Head}, {Length: from.Length - 1, Head: from.Head}, {Length: from.Length, Head: head('z')}} {
			if e := chain.Check(other, l, end); e != api.ErrChain {
				t.Errorf("from %d, not %d: %d", other.Length, from.Length, e)
			}
		}
	}
}

// P22.2: which may be.
func TestMay(t *testing.T) {
	for _, g := range goods() {
		if !chain.May(g.c) {
			t.Errorf("%+v", g.c)
		}
	}
	for _, c := range wrongs() {
		if chain.May(c) {
			t.Errorf("%+v", c)
		}
	}
}

// P22.2: the bytes, behind what is there.
func TestPut(t *testing.T) {
	for _, g := range goods() {
		for _, ahead := range []string{"", "x", "ahead"} {
			if b := chain.Put([]byte(ahead), g.c); string(b) != ahead+g.b {
				t.Errorf("%+v: %x", g.c, b)
			}
		}
	}
	for want, c := range map[string]api.Chain{
		"\x00\x00":     {},
		"\x00\x01h":    {Length: -1, Head: "h"},
		"\x00\x02hh":   {Length: least, Head: "hh"},
		"\x05\x82\x2c": {Length: 5, Head: strings.Repeat("h", 300)},
		"\xff\xff\xff\xff\xff\xff\xff\xff\x7f\x00": {Length: greatest},
	} {
		if len(c.Head) == 300 {
			want += c.Head
		}
		if b := chain.Put(nil, c); string(b) != want {
			t.Errorf("%+v, which may not be: %x", c, b)
		}
	}
}

// P22.2: what was written is read, whatever stands behind.
func TestRead(t *testing.T) {
	for _, g := range goods() {
		for _, more := range []string{"", "\x00", "more"} {
			r := pack.Open([]byte(g.b + more))
			if c := chain.Read(r); c != g.c || r.Err() != api.OK || r.Left() != len(more) {
				t.Errorf("%+v: %+v, %d, %d are left", g.c, c, r.Err(), r.Left())
			}
		}
	}
}

// P22.2: bytes that end too early, at each place.
func TestReadShort(t *testing.T) {
	for _, g := range goods() {
		for end := range g.b {
			r := pack.Open([]byte(g.b[:end]))
			if c := chain.Read(r); c != (api.Chain{}) || r.Err() != api.ErrShort || r.Left() != 0 {
				t.Errorf("the first %d bytes of %+v: %+v, %d", end, g.c, c, r.Err())
			}
		}
	}
}

// P22.2, rule R7: the first error from left to right, each field with its
// limit; what may not be is told behind these.
func TestReadWrong(t *testing.T) {
	over, bad := "\xc0\x80\x80\x80\x80\x80\x80\x80\x01", "\x80\x01" // 2^62 + 1, two forms
	h31, h33 := strings.Repeat("h", 31), strings.Repeat("h", 33)
	for _, x := range []struct {
		b    string
		want api.Errno
	}{
		{over, api.ErrLong}, {over + "\x20" + head('a'), api.ErrLong}, {over + bad, api.ErrLong},
		{"\xff\xff\xff\xff\xff\xff\xff\xff\x7f", api.ErrLong}, {"\xff\xff\xff\xff\xff\xff\xff\xff\xff\x7f", api.ErrForm},
		{bad, api.ErrForm}, {bad + "\x20" + head('a'), api.ErrForm},
		{"\x05\x21" + h33, api.ErrLong}, {"\x05\x21", api.ErrLong}, {"\x05\x82\x2c", api.ErrLong}, {"\x05" + bad, api.ErrForm},
		{"\x05\x1f" + h31, api.ErrForm}, {"\x05\x1f" + h31 + "h", api.ErrForm}, {"\x05\x00", api.ErrForm}, {"\x00\x01h", api.ErrForm}, {mostCode + "\x10" + h31[:16], api.ErrForm},
		{"\x05\x1f" + h31[1:], api.ErrShort}, {"\x05\x20" + h31, api.ErrShort}, {"\x05\x01", api.ErrShort}, {"\x05", api.ErrShort},
		{"", api.ErrShort},
	} {
		r := pack.Open([]byte(x.b))
		if c := chain.Read(r); c != (api.Chain{}) || r.Err() != x.want || r.Left() != 0 {
			t.Errorf("%x: %+v, %d, not %d", x.b, c, r.Err(), x.want)
		}
	}
}

// P22.2: of what may not be, but for a length below 0 (which is written as 0), an error.
func TestReadForm(t *testing.T) {
	for _, c := range wrongs() {
		r := pack.Open(chain.Put(nil, c))
		got, want := chain.Read(r), api.ErrForm
		switch {
		case c.Length > most || len(c.Head) > 32:
			want = api.ErrLong
		case c.Length < 0 && len(c.Head) == 32:
			want = api.OK
		}
		if r.Err() != want || want == api.OK && got != (api.Chain{Head: c.Head}) || want != api.OK && got != (api.Chain{}) {
			t.Errorf("%+v: %+v, %d, not %d", c, got, r.Err(), want)
		}
	}
}

// P22.2: a reader that has an error already, or that no call made.
func TestReadNone(t *testing.T) {
	r := pack.Open(chain.Put(nil, chain.Start()))
	r.Fail(api.ErrSum)
	if c := chain.Read(r); c != (api.Chain{}) || r.Err() != api.ErrSum {
		t.Errorf("%+v, %d", c, r.Err())
	}
	for _, r := range []*pack.Reader{nil, {}} {
		if c := chain.Read(r); c != (api.Chain{}) || r.Err() != api.ErrNil {
			t.Errorf("%+v, %d", c, r.Err())
		}
	}
}

// texts are up to seven of them, of up to 80 bytes each.
func texts(rnd *rand.Rand) [][]byte {
	var l [][]byte
	for range rnd.Intn(8) {
		b := make([]byte, rnd.Intn(80)*rnd.Intn(2))
		rnd.Read(b)
		l = append(l, b)
	}
	return l
}

// P22.3: two lists in one, and in two, wherever it is parted.
func TestAllInTwo(t *testing.T) {
	rnd := rand.New(rand.NewSource(22))
	for _, begin := range []int{0, 125, 1 << 40, most - 3, most} {
		for range 60 {
			from := api.Chain{Length: begin, Head: head(byte(rnd.Intn(256)))}
			l := slices.Concat(texts(rnd), texts(rnd))
			end := chain.All(from, l)
			for at := range len(l) + 1 {
				if got := chain.All(chain.All(from, l[:at]), l[at:]); got != end {
					t.Fatalf("%d of %d: %+v, not %+v", at, len(l), got, end)
				}
				between := chain.All(from, l[:at])
				if chain.Check(from, l[:at], between) != api.OK || chain.Check(between, l[at:], end) != api.OK || chain.Check(from, l, end) != api.OK {
					t.Fatalf("%d of %d is not taken", at, len(l))
				}
			}
			r := pack.Open(chain.Put(nil, end))
			if back := chain.Read(r); back != end || r.End() != api.OK {
				t.Fatalf("%+v: %+v, %d", end, back, r.Err())
			}
		}
	}
}

// P22.1: a list that another one was made of by one change is told apart.
func TestAnyOtherList(t *testing.T) {
	rnd := rand.New(rand.NewSource(221))
	tried := 0
	for range 500 {
		l := append(texts(rnd), []byte("x"))
		other := copied(l)
		i, j := rnd.Intn(len(l)), rnd.Intn(len(l))
		switch rnd.Intn(4) {
		case 0:
			other[i], other[j] = other[j], other[i]
		case 1:
			other = slices.Delete(other, i, i+1)
		case 2:
			other[i] = append(other[i], byte(rnd.Intn(256)))
		default:
			if len(other[i]) > 0 {
				other[i][rnd.Intn(len(other[i]))]++
			}
		}
		same := slices.EqualFunc(l, other, bytes.Equal)
		if want := map[bool]api.Errno{true: api.OK, false: api.ErrChain}[same]; chain.Check(chain.Start(), other, chain.All(chain.Start(), l)) != want {
			t.Fatalf("%x, not %x: %d", other, l, want)
		}
		if !same {
			tried++
		}
	}
	if tried < 200 {
		t.Errorf("%d alone", tried)
	}
}

// Rule R3: what is handed in is neither changed nor kept, what is answered is
// the caller's own.
func TestNothingShared(t *testing.T) {
	room := append(make([]byte, 0, 64), "text"...)
	l := [][]byte{room, []byte("b")}
	ahead := copied(l)
	one, all := chain.Link(chain.Start(), room), chain.All(chain.Start(), l)
	if chain.Check(chain.Start(), l, all) != api.OK || !slices.EqualFunc(l, ahead, bytes.Equal) || string(room[:64]) != "text"+string(make([]byte, 60)) {
		t.Errorf("%q", l)
	}
	clear(room)
	l[1] = nil
	if chain.Link(chain.Start(), ahead[0]) != one || chain.All(chain.Start(), ahead) != all {
		t.Errorf("a text is kept: %+v, %+v", one, all)
	}
	if chain.Check(chain.Start(), l, all) != api.ErrChain {
		t.Error("a text that was changed is taken")
	}
	b := append(make([]byte, 0, 64), "ahead"...)
	first, second := chain.Put(b, chain.Start()), chain.Put(b, all)
	if string(b[:64]) != "ahead"+string(make([]byte, 59)) || string(first) != "ahead\x00\x20"+string(make([]byte, 32)) {
		t.Errorf("Put: %q, %q", b[:64], first)
	}
	clear(first[:cap(first)])
	if string(b) != "ahead" {
		t.Errorf("Put's bytes are shared: %q", b)
	}
	r := pack.Open(second[5:])
	back := chain.Read(r)
	clear(second)
	if back != all {
		t.Errorf("Read's are shared: %+v", back)
	}
}

// The chapter's example.
func TestExample(t *testing.T) {
	if e := chain.Check(chain.Start(), nil, chain.Start()); e != api.OK {
		t.Error(e)
	}
}

// P22.2: any bytes: what is taken may be, and has just those bytes.
func FuzzRead(f *testing.F) {
	for _, g := range goods() {
		f.Add([]byte(g.b))
	}
	for _, c := range wrongs() {
		f.Add(chain.Put(nil, c))
	}
	f.Fuzz(func(t *testing.T, b []byte) {
		r := pack.Open(b)
		c := chain.Read(r)
		if r.Err() != api.OK {
			if c != (api.Chain{}) || r.Err() != api.ErrShort && r.Err() != api.ErrForm && r.Err() != api.ErrLong {
				t.Errorf("%x: %+v, %d", b, c, r.Err())
			}
			return
		}
		if taken := b[:len(b)-r.Left()]; !chain.May(c) || string(chain.Put(nil, c)) != string(taken) {
			t.Errorf("%x: %+v", b, c)
		}
	})
}
