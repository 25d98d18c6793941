package spaces_test

import (
	"math"
	"math/rand"
	"slices"
	"strings"
	"testing"

	"bailey/api"
	"bailey/pack"
	"bailey/spaces"
)

const (
	least    = math.MinInt
	greatest = math.MaxInt
	name16   = "abcdefghij_-0189"
	name17   = name16 + "z"
)

// space is a namespace whose readers and writers follow from its name.
func space(name string) api.Space {
	return api.Space{Name: name, Readers: len(name), Writers: 255 - len(name)}
}

// list is those of the names.
func list(names ...string) []api.Space {
	var l []api.Space
	for _, name := range names {
		l = append(l, space(name))
	}
	return l
}

// notNames are no names.
func notNames() []string {
	return []string{"", name17, strings.Repeat("a", 300), "A", "aB", "a b", " ", "a.b", "a/b", "\x00", "a\x00", "ä", "\xff", "a\n", "`", "{", ":"}
}

// wrongBits are no readers and no writers.
func wrongBits() []int { return []int{least, -256, -1, 256, 257, 511, 1 << 32, greatest} }

// goods are lists that may be, at the edges of what may be, and their bytes.
func goods() []struct {
	l []api.Space
	b string
} {
	return []struct {
		l []api.Space
		b string
	}{
		{nil, "\x00"},
		{[]api.Space{}, "\x00"},
		{[]api.Space{{Name: "a"}}, "\x01\x01a\x00\x00"},
		{[]api.Space{{Name: "-", Readers: 255, Writers: 1}}, "\x01\x01-\x81\x7f\x01"},
		{[]api.Space{{Name: name16, Readers: 4, Writers: 255}}, "\x01\x10" + name16 + "\x04\x81\x7f"},
		{[]api.Space{{Name: "a", Readers: 1}, {Name: "aa", Writers: 2}, {Name: "b", Readers: 127, Writers: 128}}, "\x03\x01a\x01\x00\x02aa\x00\x02\x01b\x7f\x81\x00"},
		{[]api.Space{{Name: "-"}, {Name: "0"}, {Name: "9"}, {Name: "_"}, {Name: "a"}, {Name: "z"}}, "\x06\x01-\x00\x00\x010\x00\x00\x019\x00\x00\x01_\x00\x00\x01a\x00\x00\x01z\x00\x00"},
	}
}

// wrongs are lists of which one thing may not be.
func wrongs() [][]api.Space {
	l := [][]api.Space{
		list("a", "b", "c", "d", "e", "f", "g"),
		list("a", "a"), list("b", "a"), list("a", "c", "b"), list("a", "b", "b"), list("aa", "a"), list("a", "b", "a"),
		{{}}, {{}, {Name: "a"}},
		{{Name: "a", Readers: 1}, {Name: "a", Readers: 2}},
	}
	for _, name := range notNames() {
		l = append(l, []api.Space{{Name: name}}, []api.Space{{Name: "-"}, {Name: name}}, []api.Space{{Name: name}, {Name: "zz"}})
	}
	for _, n := range wrongBits() {
		l = append(l, []api.Space{{Name: "a", Readers: n}}, []api.Space{{Name: "a", Writers: n}})
		l = append(l, []api.Space{{Name: "a"}, {Name: "b", Readers: n, Writers: 1}}, []api.Space{{Name: "a", Readers: 1, Writers: n}, {Name: "b"}})
	}
	return l
}

// P18.1: which may be.
func TestCheck(t *testing.T) {
	for _, g := range goods() {
		if !spaces.Check(g.l) {
			t.Errorf("%+v", g.l)
		}
	}
	for _, l := range wrongs() {
		if spaces.Check(l) {
			t.Errorf("%+v", l)
		}
	}
	for _, n := range []int{0, 1, 2, 127, 128, 254, 255} {
		if !spaces.Check([]api.Space{{Name: "a", Readers: n}, {Name: "b", Writers: n}}) {
			t.Errorf("%d", n)
		}
	}
	if spaces.Check(make([]api.Space, 1000)) {
		t.Error("a thousand")
	}
}

// P18.1: the first one of that name, in lists that may not be, too.
func TestFind(t *testing.T) {
	l := []api.Space{{Name: "b", Readers: 1, Writers: 2}, {Name: "a", Readers: 3}, {Name: "b", Readers: 4}, {Name: "B", Writers: -1}, {Readers: 9}}
	for name, want := range map[string]api.Space{"b": l[0], "a": l[1], "B": l[3], "": l[4]} {
		if s, ok := spaces.Find(l, name); s != want || !ok {
			t.Errorf("%q: %+v, %v", name, s, ok)
		}
	}
	for _, name := range []string{"c", "A", "bb", "ab", "b ", name17} {
		if s, ok := spaces.Find(l, name); s != (api.Space{}) || ok {
			t.Errorf("%q: %+v, %v", name, s, ok)
		}
	}
	if s, ok := spaces.Find(nil, ""); s != (api.Space{}) || ok {
		t.Errorf("of none: %+v, %v", s, ok)
	}
}

// sets looks whether Set of s into l is want.
func sets(t *testing.T, what string, l []api.Space, s api.Space, want ...api.Space) {
	t.Helper()
	if got, e := spaces.Set(l, s); !slices.Equal(got, want) || e != api.OK {
		t.Errorf("%s: %+v, %d, not %+v", what, got, e, want)
	}
}

// P18.1: a new one stands ahead of the first one whose name is above.
func TestSetNew(t *testing.T) {
	c := api.Space{Name: "c", Readers: 255, Writers: 0}
	b, d := space("b"), space("d")
	sets(t, "into none", nil, c, c)
	sets(t, "into an empty list", []api.Space{}, c, c)
	sets(t, "first", list("d", "e"), c, c, d, space("e"))
	sets(t, "in between", list("b", "d"), c, b, c, d)
	sets(t, "last", list("a", "b"), c, space("a"), b, c)
	sets(t, "a longer name", list("b", "cc", "d"), c, b, c, space("cc"), d)
	sets(t, "a shorter name", list("b", "bb", "d"), c, b, space("bb"), c, d)
	sets(t, "of 16 bytes", list("a", "b"), space(name16), space("a"), space(name16), b)
	sets(t, "the sixth one", list("a", "b", "d", "e", "f"), c, space("a"), b, c, d, space("e"), space("f"))
	sets(t, "names that fall", list("b", "d", "a"), c, b, c, d, space("a"))
	sets(t, "the end of names that fall", list("b", "a"), c, b, space("a"), c)
	for _, n := range []int{0, 255} {
		s := api.Space{Name: "c", Readers: n, Writers: 255 - n}
		sets(t, "edges", list("b"), s, b, s)
	}
}

// P18.1: one of that name has its place, with six there and more, too.
func TestSetThere(t *testing.T) {
	names := []string{"a", "b", "c", "d", "e", "f"}
	for i, name := range names {
		s := api.Space{Name: name, Readers: 77, Writers: 88}
		want := list(names...)
		want[i] = s
		sets(t, "of six", list(names...), s, want...)
		sets(t, "the same again", want, s, want...)
	}
	c := api.Space{Name: "c"}
	sets(t, "the first one of two", list("c", "b", "c"), c, c, space("b"), space("c"))
	want := list("a", "b", "c", "d", "e", "f", "g", "h")
	want[2] = c
	sets(t, "of eight", list("a", "b", "c", "d", "e", "f", "g", "h"), c, want...)
}

// P18.1: the errors, of which the first one that applies is told; the list is
// answered as it is.
func TestSetWrong(t *testing.T) {
	six := list("a", "b", "c", "d", "e", "f")
	for _, l := range [][]api.Space{nil, list("b"), six, list("b", "a"), list("a", "b", "c", "d", "e", "f", "g")} {
		wrong := func(s api.Space, want api.Errno) {
			t.Helper()
			if got, e := spaces.Set(l, s); e != want || !slices.Equal(got, l) {
				t.Errorf("%+v into %d: %+v, %d, not %d", s, len(l), got, e, want)
			}
		}
		for _, name := range notNames() {
			wrong(api.Space{Name: name, Readers: 1, Writers: 1}, api.ErrArg)
		}
		for _, n := range wrongBits() {
			for _, name := range []string{"a", "b", "x"} {
				wrong(api.Space{Name: name, Readers: n}, api.ErrArg)
				wrong(api.Space{Name: name, Writers: n}, api.ErrArg)
			}
		}
		if len(l) >= 6 {
			for _, name := range []string{"-", "aa", "x"} {
				wrong(space(name), api.ErrFull)
			}
		}
	}
}

// P18.1: readers read, writers write, nobody else does.
func TestMay(t *testing.T) {
	l := []api.Space{{Name: "a", Readers: 1, Writers: 128}, {Name: "b", Readers: 255}, {Name: "c", Writers: 255}, {Name: "d", Readers: 0b10110, Writers: 4}}
	for client := -2; client <= 70; client++ {
		in := client >= 0 && client <= 7
		for name, want := range map[string][2]bool{
			"a": {client == 0, client == 7},
			"b": {in, false},
			"c": {false, in},
			"d": {client == 1 || client == 2 || client == 4, client == 2},
			"e": {}, "": {}, "A": {}, "aa": {},
		} {
			if r, w := spaces.May(l, name, client, false), spaces.May(l, name, client, true); r != want[0] || w != want[1] {
				t.Errorf("client %d in %q: %v, %v", client, name, r, w)
			}
		}
	}
	for _, client := range []int{least, least + 1, -64, greatest, greatest - 63} {
		if spaces.May(l, "b", client, false) || spaces.May(l, "c", client, true) || spaces.May(nil, "b", client, false) {
			t.Errorf("client %d", client)
		}
	}
	if spaces.May(nil, "a", 0, true) || spaces.May([]api.Space{{Name: "b", Writers: 1}, {Name: "b", Writers: 2}}, "b", 1, true) {
		t.Error("of none, or of the second one")
	}
}

// P18.2: their bytes, behind what is there.
func TestPut(t *testing.T) {
	for _, g := range goods() {
		for _, ahead := range []string{"", "x", "ahead"} {
			if b := spaces.Put([]byte(ahead), g.l); string(b) != ahead+g.b {
				t.Errorf("%+v: %x", g.l, b)
			}
		}
	}
	if b := spaces.Put(nil, list("b", "a")); string(b) != "\x02\x01b\x01\x81\x7e\x01a\x01\x81\x7e" {
		t.Errorf("names that fall: %x", b)
	}
}

// P18.2, P18.3: what was written is read, whatever stands behind.
func TestRead(t *testing.T) {
	for _, g := range goods() {
		for _, more := range []string{"", "\x00", "more"} {
			r := pack.Open([]byte(g.b + more))
			l := spaces.Read(r)
			if !slices.Equal(l, g.l) || r.Err() != api.OK || r.Left() != len(more) {
				t.Errorf("%+v: %+v, %d, %d are left", g.l, l, r.Err(), r.Left())
			}
		}
	}
}

// P18.2: bytes that end too early, at each place.
func TestReadShort(t *testing.T) {
	for _, g := range goods() {
		for end := range g.b {
			r := pack.Open([]byte(g.b[:end]))
			if l := spaces.Read(r); l != nil || r.Err() != api.ErrShort || r.Left() != 0 {
				t.Errorf("the first %d bytes of %+v: %+v, %d", end, g.l, l, r.Err())
			}
		}
	}
}

// P18.2, rule R7: the first error from left to right, each field with its
// limit; what may not be is told behind these.
func TestReadWrong(t *testing.T) {
	for b, want := range map[string]api.Errno{
		"\x07":                               api.ErrLong,
		"\x81\x00":                           api.ErrLong,
		"\x80\x01":                           api.ErrForm,
		"\x01\x11":                           api.ErrLong,
		"\x01\x11" + name17 + "\x00\x00":     api.ErrLong,
		"\x01\x80\x01a\x00\x00":              api.ErrForm,
		"\x01\x01a\x82\x00\x00":              api.ErrLong,
		"\x01\x01a\x80\x01\x00":              api.ErrForm,
		"\x01\x01a\x00\x82\x00":              api.ErrLong,
		"\x01\x01a\x00\x82\x7f":              api.ErrLong,
		"\x01\x01a\x00\x80\x00":              api.ErrForm,
		"\x01\x00\x00\x00":                   api.ErrForm,
		"\x01\x01A\x00\x00":                  api.ErrForm,
		"\x01\x01A\x00\x82\x00":              api.ErrLong,
		"\x01\x01A\x00":                      api.ErrShort,
		"\x02\x01A\x00\x00":                  api.ErrShort,
		"\x02\x01a\x00\x00\x01a\x00\x00":     api.ErrForm,
		"\x02\x01b\x00\x00\x01a\x00\x00":     api.ErrForm,
		"\x02\x01b\x00\x00\x01a\x00":         api.ErrShort,
		"\x02\x02aa\x00\x00\x01a\x00\x00":    api.ErrForm,
		"\x02\x01b\x00\x00\x01a\x82\x00":     api.ErrLong,
		"\x02\x01a\x00\x00\x01b\x81\x00":     api.ErrShort,
		"\x02\x01a\x00\x00\x01 \x81\x00\x00": api.ErrForm,
	} {
		r := pack.Open([]byte(b))
		if l := spaces.Read(r); l != nil || r.Err() != want || r.Left() != 0 {
			t.Errorf("%x: %+v, %d, not %d", b, l, r.Err(), want)
		}
	}
	for _, l := range wrongs() {
		r := pack.Open(spaces.Put(nil, l))
		if got := spaces.Read(r); got != nil && !spaces.Check(got) {
			t.Errorf("%+v: %+v, %d", l, got, r.Err())
		}
	}
}

// P18.2: a reader that has an error already, or that no call made.
func TestReadNone(t *testing.T) {
	r := pack.Open([]byte("\x01\x01a\x00\x00"))
	r.Fail(api.ErrSum)
	if l := spaces.Read(r); l != nil || r.Err() != api.ErrSum {
		t.Errorf("%+v, %d", l, r.Err())
	}
	for _, r := range []*pack.Reader{nil, {}} {
		if l := spaces.Read(r); l != nil || r.Err() != api.ErrNil {
			t.Errorf("%+v, %d", l, r.Err())
		}
	}
}

// P18.2: field by field, in order, of such that may not be, too.
func TestSame(t *testing.T) {
	all := func() []api.Space {
		return []api.Space{{Name: "b", Readers: -1, Writers: 2}, {Name: "a", Readers: 3, Writers: 900}, {}}
	}
	if !spaces.Same(all(), all()) || !spaces.Same(nil, nil) || !spaces.Same(nil, []api.Space{}) {
		t.Error("the same are not")
	}
	for i := range all() {
		for _, change := range []func(s *api.Space){
			func(s *api.Space) { s.Name += "a" }, func(s *api.Space) { s.Name = "B" },
			func(s *api.Space) { s.Readers++ }, func(s *api.Space) { s.Writers-- },
		} {
			l := all()
			change(&l[i])
			if spaces.Same(l, all()) || spaces.Same(all(), l) {
				t.Errorf("%+v", l)
			}
		}
	}
	turned := all()
	turned[0], turned[1] = turned[1], turned[0]
	for _, l := range [][]api.Space{nil, all()[1:], all()[:2], append(all(), api.Space{}), turned} {
		if spaces.Same(l, all()) || spaces.Same(all(), l) {
			t.Errorf("%+v", l)
		}
	}
}

// P18.3: of such that may be Set makes such that may be, in which all others
// are as they were; Read of Put is these.
func TestSetKeeps(t *testing.T) {
	rnd := rand.New(rand.NewSource(18))
	var full, made int
	for range 300 {
		var l []api.Space
		there := map[string]api.Space{}
		for range 30 {
			s := api.Space{Name: string(rune('a' + rnd.Intn(9))), Readers: rnd.Intn(256), Writers: rnd.Intn(256)}
			next, e := spaces.Set(l, s)
			if _, ok := there[s.Name]; !ok && len(there) == 6 {
				full++
				if e != api.ErrFull || !spaces.Same(next, l) {
					t.Fatalf("%+v into %+v: %+v, %d", s, l, next, e)
				}
				continue
			}
			there[s.Name] = s
			made++
			if e != api.OK || !spaces.Check(next) || len(next) != len(there) {
				t.Fatalf("%+v into %+v: %+v, %d", s, l, next, e)
			}
			for name, want := range there {
				if got, ok := spaces.Find(next, name); got != want || !ok {
					t.Fatalf("%+v into %+v: %+v", s, l, next)
				}
			}
			r := pack.Open(spaces.Put(nil, next))
			if back := spaces.Read(r); !spaces.Same(back, next) || r.End() != api.OK {
				t.Fatalf("%+v: %+v, %d", next, back, r.Err())
			}
			l = next
		}
	}
	if full < 500 || made < 3000 {
		t.Errorf("%d were refused, %d made", full, made)
	}
}

// Rule R3: what is handed in is neither changed nor kept, what is answered is
// the caller's own.
func TestNothingShared(t *testing.T) {
	room := make([]api.Space, 3, 10)
	copy(room, list("a", "c", "e"))
	behind := room[:10]
	for _, s := range []api.Space{{Name: "a"}, {Name: "c"}, {Name: "b"}, {Name: "f"}, {Name: "A"}, {Name: "-", Readers: 300}} {
		got, _ := spaces.Set(room, s)
		clear(got[:cap(got)])
		if !slices.Equal(room, list("a", "c", "e")) || !slices.Equal(behind[3:], make([]api.Space, 7)) {
			t.Errorf("Set of %+v: %+v", s, behind)
		}
		copy(room, list("a", "c", "e"))
	}
	six := list("a", "b", "c", "d", "e", "f")
	got, _ := spaces.Set(six, space("x"))
	clear(got)
	if !slices.Equal(six, list("a", "b", "c", "d", "e", "f")) {
		t.Errorf("beside ErrFull: %+v", six)
	}
	b := append(make([]byte, 0, 64), "ahead"...)
	first := spaces.Put(b, list("a"))
	second := spaces.Put(b, list("b", "c"))
	if string(b[:64]) != "ahead"+string(make([]byte, 59)) || string(first) != "ahead\x01\x01a\x01\x81\x7e" || len(second) != 5+1+2*5 {
		t.Errorf("Put: %q, %q, %q", b[:64], first, second)
	}
	clear(first[:cap(first)])
	if string(b) != "ahead" {
		t.Errorf("Put's bytes are shared: %q", b)
	}
	r := pack.Open(second[5:])
	l := spaces.Read(r)
	clear(second)
	if !slices.Equal(l, list("b", "c")) {
		t.Errorf("Read's are shared: %+v", l)
	}
}

// The chapter's example.
func TestExample(t *testing.T) {
	l := []api.Space{{Name: "a", Writers: 4}}
	if !spaces.May(l, "a", 2, true) || spaces.May(l, "a", 1, true) {
		t.Error("who writes")
	}
}

// P18.2: any bytes: what is taken may be, and has just those bytes.
func FuzzRead(f *testing.F) {
	for _, g := range goods() {
		f.Add([]byte(g.b))
	}
	f.Add([]byte("\x02\x01a\x00\x00\x01b\x81\x7f\x00more"))
	f.Fuzz(func(t *testing.T, b []byte) {
		r := pack.Open(b)
		l := spaces.Read(r)
		if r.Err() != api.OK {
			if l != nil || r.Err() != api.ErrShort && r.Err() != api.ErrForm && r.Err() != api.ErrLong {
				t.Errorf("%x: %+v, %d", b, l, r.Err())
			}
			return
		}
		if taken := b[:len(b)-r.Left()]; !spaces.Check(l) || string(spaces.Put(nil, l)) != string(taken) {
			t.Errorf("%x: %+v", b, l)
		}
	})
}
