package manifest_test

import (
	"math"
	"math/rand"
	"slices"
	"strings"
	"testing"

	"bailey/api"
	"bailey/manifest"
	"bailey/pack"
)

const (
	least    = math.MinInt
	greatest = math.MaxInt
	name16   = "abcdefghij_-0189"
	name17   = name16 + "z"
	late     = api.MaxTime
)

// sum is 32 bytes, of which the first one tells them apart.
func sum(first byte) string { return string([]byte{first}) + strings.Repeat("\xfe", 31) }

// pieces are such of these sizes, with the sums a, b and so on.
func pieces(sizes ...int) []api.Piece {
	var l []api.Piece
	for i, n := range sizes {
		l = append(l, api.Piece{Sum: sum(byte('a' + i)), Size: n})
	}
	return l
}

// snap is one of the space and name (ahead of, and behind a dot) with so many
// pieces; what else it has follows from these.
func snap(called string, n int) api.Snap {
	space, name, _ := strings.Cut(called, ".")
	s := api.Snap{Space: space, Name: name, Time: 3, Keep: 10 + n}
	for i := range n {
		s.Pieces = append(s.Pieces, api.Piece{Sum: sum(byte(i)), Size: 1 + i})
		s.Bytes += 1 + i
	}
	return s
}

// list is those that are called so, with a piece each.
func list(called ...string) []api.Snap {
	var l []api.Snap
	for _, s := range called {
		l = append(l, snap(s, 1))
	}
	return l
}

// twelve are as many as may be.
func twelve() []api.Snap {
	return list("a.b", "a.c", "a.d", "b.b", "b.c", "b.d", "c.b", "c.c", "c.d", "d.b", "d.c", "d.d")
}

// copied is l in memory of its own.
func copied(l []api.Snap) []api.Snap {
	out := slices.Clone(l)
	for i := range out {
		out[i].Pieces = slices.Clone(out[i].Pieces)
	}
	return out
}

// same, and sameList, hold such against each other without the package's own Same.
func same(a, b api.Snap) bool {
	return a.Space == b.Space && a.Name == b.Name && a.Bytes == b.Bytes && a.Time == b.Time && a.Keep == b.Keep && slices.Equal(a.Pieces, b.Pieces)
}

func sameList(a, b []api.Snap) bool { return slices.EqualFunc(a, b, same) }

func notNames() []string {
	return []string{"", name17, strings.Repeat("a", 300), "A", "a b", "a.b", "\x00", "ä", "\xff", "a\n"}
}

// wrongPieces are pieces that may not be.
func wrongPieces() []api.Piece {
	l := []api.Piece{{}, {Size: 1}}
	for _, n := range []int{1, 16, 31, 33, 64, 300} {
		l = append(l, api.Piece{Sum: strings.Repeat("a", n), Size: 1})
	}
	for _, n := range []int{least, -1, 0, api.MaxPiece + 1, greatest} {
		l = append(l, api.Piece{Sum: sum('a'), Size: n})
	}
	return l
}

// wrongSnaps are snapshots of the space c and the name c (but where that is
// what may not be) that may not be.
func wrongSnaps() []api.Snap {
	good := snap("c.c", 3)
	var l []api.Snap
	change := func(change func(s *api.Snap)) {
		s := good
		s.Pieces = slices.Clone(s.Pieces)
		change(&s)
		l = append(l, s)
	}
	for _, name := range notNames() {
		change(func(s *api.Snap) { s.Space = name })
		change(func(s *api.Snap) { s.Name = name })
	}
	for _, n := range []int{least, -1, late + 1, greatest} {
		change(func(s *api.Snap) { s.Time = n })
		change(func(s *api.Snap) { s.Keep = n })
	}
	for _, n := range []int{least, -1, 0, 5, 7, api.MaxBytes, greatest} {
		change(func(s *api.Snap) { s.Bytes = n })
	}
	for i := range good.Pieces {
		for _, p := range wrongPieces() {
			change(func(s *api.Snap) { s.Pieces[i] = p })
			change(func(s *api.Snap) { s.Bytes += p.Size - s.Pieces[i].Size; s.Pieces[i] = p })
		}
	}
	change(func(s *api.Snap) { s.Pieces = nil })
	change(func(s *api.Snap) { s.Pieces, s.Bytes = pieces(1, 1, 1, 1, 1, 1, 1, 1, 1), 9 })
	change(func(s *api.Snap) { s.Pieces, s.Bytes = pieces(1, 1, 1, 1, 1, 1, 1, 1, 1), 0 })
	change(func(s *api.Snap) { s.Pieces, s.Bytes = nil, 1 })
	return append(l, api.Snap{})
}

// goods are lists that may be, at the edges of what may be, and their bytes.
func goods() []struct {
	l []api.Snap
	b string
} {
	big := "\xa0\x80\x80\x80\x80\x00" // 2^40
	return []struct {
		l []api.Snap
		b string
	}{
		{nil, "\x00"},
		{[]api.Snap{}, "\x00"},
		{[]api.Snap{{Space: "a", Name: "x"}}, "\x01\x01a\x01x\x00\x00\x00\x00"},
		{[]api.Snap{{Space: "a", Name: "x", Bytes: 300, Time: 4, Keep: 128, Pieces: pieces(44, 256)}}, "\x01\x01a\x01x\x82\x2c\x04\x81\x00\x02\x20" + sum('a') + "\x2c\x20" + sum('b') + "\x82\x00"},
		{[]api.Snap{{Space: name16, Name: name16, Time: late, Keep: late}}, "\x01\x10" + name16 + "\x10" + name16 + "\x00" + big + big + "\x00"},
		{
			[]api.Snap{{Space: "-", Name: "z"}, {Space: "a", Name: "a"}, {Space: "a", Name: "aa", Keep: 2}, {Space: "aa", Name: "a", Time: 1}},
			"\x04\x01-\x01z\x00\x00\x00\x00\x01a\x01a\x00\x00\x00\x00\x01a\x02aa\x00\x00\x02\x00\x02aa\x01a\x00\x01\x00\x00",
		},
		{
			[]api.Snap{{Space: "b", Name: "_", Bytes: 2048, Pieces: pieces(256, 256, 256, 256, 256, 256, 256, 256)}},
			"\x01\x01b\x01_\x90\x00\x00\x00\x08\x20" + sum('a') + "\x82\x00\x20" + sum('b') + "\x82\x00\x20" + sum('c') + "\x82\x00\x20" + sum('d') + "\x82\x00" +
				"\x20" + sum('e') + "\x82\x00\x20" + sum('f') + "\x82\x00\x20" + sum('g') + "\x82\x00\x20" + sum('h') + "\x82\x00",
		},
		{
			[]api.Snap{{Space: "b", Name: "b", Bytes: 2, Pieces: []api.Piece{{Sum: sum('a'), Size: 1}, {Sum: sum('a'), Size: 1}}}}, // one piece twice
			"\x01\x01b\x01b\x02\x00\x00\x02\x20" + sum('a') + "\x01\x20" + sum('a') + "\x01",
		},
	}
}

// wrongs are lists of which one thing may not be.
func wrongs() [][]api.Snap {
	l := [][]api.Snap{
		append(twelve(), snap("e.a", 1)), append(list("a.a"), twelve()...),
		list("a.a", "a.a"), list("a.b", "a.a"), list("b.a", "a.b"), list("b.a", "a.a"), list("b.a", "a.a", "c.a"), list("a.a", "c.a", "b.a"), list("a.a", "b.a", "b.a"), list("a.aa", "a.a"), list("aa.a", "a.b"),
		{snap("a.a", 1), snap("a.a", 2)},
	}
	for _, s := range wrongSnaps() {
		l = append(l, []api.Snap{s})
		if s.Space == "c" && s.Name == "c" {
			l = append(l, []api.Snap{snap("a.a", 2), s}, []api.Snap{s, snap("d.a", 2)}, []api.Snap{snap("a.a", 2), s, snap("d.a", 2)})
		}
	}
	return l
}

// P20.1: which pieces may be.
func TestPiece(t *testing.T) {
	for _, n := range []int{1, 2, 127, 128, 255, 256} {
		if !manifest.Piece(api.Piece{Sum: sum('a'), Size: n}) || !manifest.Piece(api.Piece{Sum: string(make([]byte, 32)), Size: n}) {
			t.Errorf("%d", n)
		}
	}
	for _, p := range wrongPieces() {
		if manifest.Piece(p) {
			t.Errorf("%+v", p)
		}
	}
}

// P20.1: how many bytes pieces have.
func TestBytes(t *testing.T) {
	for want, l := range map[int][]api.Piece{
		0: nil, 1: pieces(1), 256: pieces(256), 6: pieces(1, 2, 3), 28: pieces(1, 2, 3, 4, 5, 6, 7), 36: pieces(1, 2, 3, 4, 5, 6, 7, 8),
		2048: pieces(256, 256, 256, 256, 256, 256, 256, 256),
	} {
		if n, e := manifest.Bytes(l); n != want || e != api.OK {
			t.Errorf("%+v: %d, %d", l, n, e)
		}
	}
	if n, e := manifest.Bytes(append(pieces(5), pieces(5)...)); n != 10 || e != api.OK {
		t.Errorf("one piece twice: %d, %d", n, e)
	}
	wrong := [][]api.Piece{pieces(1, 1, 1, 1, 1, 1, 1, 1, 1), make([]api.Piece, 9), make([]api.Piece, 1000)}
	for _, p := range wrongPieces() {
		wrong = append(wrong, []api.Piece{p}, append(pieces(1, 2), p), append([]api.Piece{p}, pieces(1, 2)...), append(pieces(1, 2, 3, 4, 5, 6, 7), p))
	}
	for _, l := range wrong {
		if n, e := manifest.Bytes(l); n != 0 || e != api.ErrArg {
			t.Errorf("%+v: %d, %d", l, n, e)
		}
	}
}

// P20.1: which may be.
func TestCheck(t *testing.T) {
	for _, g := range goods() {
		if !manifest.Check(g.l) {
			t.Errorf("%+v", g.l)
		}
	}
	for _, l := range wrongs() {
		if manifest.Check(l) {
			t.Errorf("%+v", l)
		}
	}
	for n := range 9 {
		if !manifest.Check([]api.Snap{snap("a.a", n)}) {
			t.Errorf("of %d pieces", n)
		}
	}
	if l := twelve(); !manifest.Check(l) || !manifest.Check(l[:11]) || manifest.Check(make([]api.Snap, 1000)) {
		t.Error("eleven, twelve or a thousand")
	}
}

// P20.2: the first one of that space and name, in lists that may not be, too.
func TestFind(t *testing.T) {
	l := []api.Snap{snap("b.b", 1), snap("a.b", 2), snap("b.a", 3), snap("b.b", 4), {Bytes: -1}}
	for called, want := range map[string]api.Snap{"b.b": l[0], "a.b": l[1], "b.a": l[2], ".": l[4]} {
		space, name, _ := strings.Cut(called, ".")
		if s, ok := manifest.Find(l, space, name); !same(s, want) || !ok {
			t.Errorf("%s: %+v, %v", called, s, ok)
		}
	}
	for _, called := range []string{"a.a", "b.c", "b.", ".b", "B.b", "bb.b", "b.bb", "bb.", ".bb"} {
		space, name, _ := strings.Cut(called, ".")
		if s, ok := manifest.Find(l, space, name); !same(s, api.Snap{}) || ok {
			t.Errorf("%s: %+v, %v", called, s, ok)
		}
	}
	if s, ok := manifest.Find(nil, "", ""); !same(s, api.Snap{}) || ok {
		t.Errorf("of none: %+v, %v", s, ok)
	}
}

// adds looks whether Add of s into l is l with s at i.
func adds(t *testing.T, what string, l []api.Snap, s api.Snap, i int) {
	t.Helper()
	want := slices.Insert(copied(l), i, s)
	if got, e := manifest.Add(l, s); !sameList(got, want) || e != api.OK {
		t.Errorf("%s: %+v, %d, not %+v", what, got, e, want)
	}
}

// P20.2: a new one stands ahead of the first one that is above it.
func TestAdd(t *testing.T) {
	s := snap("c.c", 3)
	adds(t, "into none", nil, s, 0)
	adds(t, "into an empty list", []api.Snap{}, s, 0)
	adds(t, "first", list("d.a", "e.a"), s, 0)
	adds(t, "first, by its name", list("c.d", "d.a"), s, 0)
	adds(t, "in between", list("b.x", "d.a"), s, 1)
	adds(t, "in between, by its name", list("b.x", "c.b", "c.d", "d.a"), s, 2)
	adds(t, "last", list("a.x", "b.d"), s, 2)
	adds(t, "last, by its name", list("a.x", "c.b"), s, 2)
	adds(t, "a longer name", list("c.b", "c.cc"), s, 1)
	adds(t, "a shorter name", list("c.bb", "c.d"), s, 1)
	adds(t, "a longer space", list("b.b", "cc.a"), s, 1)
	adds(t, "a shorter space", list("bb.z", "d.a"), s, 1)
	adds(t, "such that fall", list("b.a", "d.a", "a.a"), s, 1)
	adds(t, "the end of such that fall", list("b.a", "a.a"), s, 2)
	adds(t, "the twelfth one", slices.Delete(twelve(), 7, 8), s, 7)
	adds(t, "of no pieces", list("b.a"), snap("c.c", 0), 1)
	adds(t, "of eight pieces", list("b.a"), snap("c.c", 8), 1)
	adds(t, "at the limits", list("a.a"), api.Snap{Space: name16, Name: name16, Time: late, Keep: late}, 1)
	adds(t, "beside such that may not be", []api.Snap{{Space: "a", Bytes: -1}, {Space: "d", Name: "B"}}, s, 1)
}

// P20.2: Add's errors, of which the first one that applies is told; the list is
// answered as it is.
func TestAddWrong(t *testing.T) {
	full, more := twelve(), append(twelve(), snap("e.e", 1))
	for _, l := range [][]api.Snap{nil, list("b.b"), list("c.c"), full, more, list("b.a", "a.a")} {
		wrong := func(s api.Snap, want api.Errno) {
			t.Helper()
			if got, e := manifest.Add(l, s); e != want || !sameList(got, l) {
				t.Errorf("%+v into %d: %+v, %d, not %d", s, len(l), got, e, want)
			}
		}
		for _, s := range wrongSnaps() {
			wrong(s, api.ErrArg)
		}
		for i := range l {
			wrong(l[i], api.ErrExists)
			s := snap(l[i].Space+"."+l[i].Name, 5)
			wrong(s, api.ErrExists)
		}
		if len(l) >= 12 {
			for _, called := range []string{"a.a", "c.cc", "x.x"} {
				wrong(snap(called, 1), api.ErrFull)
			}
		}
	}
}

// P20.2: the first one of that space and name goes, once it need not be kept.
func TestRemove(t *testing.T) {
	l := []api.Snap{snap("a.b", 2), snap("b.a", 3), snap("b.b", 4)} // kept to 12, 13 and 14
	for i, s := range l {
		want := slices.Delete(copied(l), i, i+1)
		for _, now := range []int{s.Keep, s.Keep + 1, late, greatest} {
			if got, n, e := manifest.Remove(l, s.Space, s.Name, now); !sameList(got, want) || n != s.Bytes || e != api.OK {
				t.Errorf("%d at %d: %+v, %d, %d", i, now, got, n, e)
			}
		}
		for _, now := range []int{least, -1, 0, s.Keep - 1} {
			if got, n, e := manifest.Remove(l, s.Space, s.Name, now); !sameList(got, l) || n != 0 || e != api.ErrHeld {
				t.Errorf("%d at %d: %+v, %d, %d", i, now, got, n, e)
			}
		}
	}
	for _, called := range []string{"a.a", "c.b", "b.c", "b.", ".b", "."} {
		space, name, _ := strings.Cut(called, ".")
		for _, now := range []int{0, late} {
			if got, n, e := manifest.Remove(l, space, name, now); !sameList(got, l) || n != 0 || e != api.ErrNone {
				t.Errorf("%s: %+v, %d, %d", called, got, n, e)
			}
		}
	}
	if got, n, e := manifest.Remove(nil, "a", "b", late); len(got) != 0 || n != 0 || e != api.ErrNone {
		t.Errorf("of none: %+v, %d, %d", got, n, e)
	}
	twice := []api.Snap{snap("b.b", 1), snap("a.a", 2), snap("a.a", 4)}
	if got, n, e := manifest.Remove(twice, "a", "a", 12); !sameList(got, []api.Snap{twice[0], twice[2]}) || n != 3 || e != api.OK {
		t.Errorf("there twice: %+v, %d, %d", got, n, e)
	}
	wrong := []api.Snap{{Bytes: -5, Keep: -2}}
	if got, n, e := manifest.Remove(wrong, "", "", -2); len(got) != 0 || n != -5 || e != api.OK {
		t.Errorf("one that may not be: %+v, %d, %d", got, n, e)
	}
	if got, n, e := manifest.Remove(wrong, "", "", -3); !sameList(got, wrong) || n != 0 || e != api.ErrHeld {
		t.Errorf("one that may not be: %+v, %d, %d", got, n, e)
	}
}

// P20.2: the names of those of a space, in the list's order.
func TestNames(t *testing.T) {
	l := list("b.c", "a.x", "b.a", "a.y", "b.c", ".z", "c.z")
	for space, want := range map[string][]string{"a": {"x", "y"}, "b": {"c", "a", "c"}, "c": {"z"}, "": {"z"}, "d": nil, "A": nil, "aa": nil, "x": nil} {
		if got := manifest.Names(l, space); !slices.Equal(got, want) {
			t.Errorf("%q: %q", space, got)
		}
	}
	if got := manifest.Names(twelve(), "b"); !slices.Equal(got, []string{"b", "c", "d"}) {
		t.Errorf("%q", got)
	}
	if got := manifest.Names(nil, ""); len(got) != 0 {
		t.Errorf("of none: %q", got)
	}
}

// P20.2: the sums of all pieces, rising, each once.
func TestNeeds(t *testing.T) {
	of := func(firsts ...byte) api.Snap {
		var s api.Snap
		for i, first := range firsts {
			s.Pieces = append(s.Pieces, api.Piece{Sum: sum(first), Size: 1 + i}) // the same sums with unlike sizes, too
		}
		return s
	}
	for _, x := range []struct {
		l    []api.Snap
		want string
	}{
		{nil, ""},
		{[]api.Snap{{}, {}}, ""},
		{[]api.Snap{of('b')}, "b"},
		{[]api.Snap{of('c', 'a', 'b')}, "abc"},
		{[]api.Snap{of('b', 'b', 'b')}, "b"},
		{[]api.Snap{of('c', 'a'), {}, of('b', 'a', 'c'), of('\xff', '\x00', 'c')}, "\x00abc\xff"},
	} {
		var got string
		l := manifest.Needs(x.l)
		for _, s := range l {
			if s != sum(s[0]) {
				t.Fatalf("%q", s)
			}
			got += s[:1]
		}
		if got != x.want {
			t.Errorf("%+v: %q", x.l, got)
		}
	}
	wrong := []api.Snap{{Pieces: []api.Piece{{Sum: "b"}, {Sum: ""}, {Sum: "aa"}, {Sum: "a"}, {Sum: "", Size: -1}}}}
	if got := manifest.Needs(wrong); !slices.Equal(got, []string{"", "a", "aa", "b"}) {
		t.Errorf("of sums that may not be: %q", got)
	}
}

// P20.3: the pieces' bytes, behind what is there.
func TestPutPieces(t *testing.T) {
	for want, l := range map[string][]api.Piece{
		"\x00":                             nil,
		"\x01\x20" + sum('a') + "\x82\x00": pieces(256),
		"\x02\x20" + sum('a') + "\x7f\x20" + sum('b') + "\x01": pieces(127, 1),
		"\x02\x00\x00\x01x\x00":                                {{}, {Sum: "x", Size: -1}},
	} {
		for _, ahead := range []string{"", "ahead"} {
			if b := manifest.PutPieces([]byte(ahead), l); string(b) != ahead+want {
				t.Errorf("%+v: %x", l, b)
			}
		}
	}
}

// P20.3: pieces that were written are read, whatever stands behind.
func TestReadPieces(t *testing.T) {
	for _, l := range [][]api.Piece{nil, {}, pieces(1), pieces(256), pieces(9, 9, 1), pieces(1, 2, 3, 4, 5, 6, 7), pieces(1, 2, 3, 4, 5, 6, 7, 256)} {
		b := string(manifest.PutPieces(nil, l))
		for _, more := range []string{"", "\x00", "more"} {
			r := pack.Open([]byte(b + more))
			if got := manifest.ReadPieces(r); !slices.Equal(got, l) || r.Err() != api.OK || r.Left() != len(more) {
				t.Errorf("%+v: %+v, %d, %d are left", l, got, r.Err(), r.Left())
			}
		}
		for end := range b {
			r := pack.Open([]byte(b[:end]))
			if got := manifest.ReadPieces(r); got != nil || r.Err() != api.ErrShort || r.Left() != 0 {
				t.Errorf("the first %d bytes of %+v: %+v, %d", end, l, got, r.Err())
			}
		}
	}
}

// P20.3, rule R7: the first error from left to right; a piece that may not be
// is told behind its fields, ahead of the next one's.
func TestReadPiecesWrong(t *testing.T) {
	a, b31 := "\x20"+sum('a'), "\x1f"+sum('b')[:31]
	for _, x := range []struct {
		b    string
		want api.Errno
	}{
		{"\x09", api.ErrLong}, {"\x80\x01", api.ErrForm},
		{"\x01\x21" + strings.Repeat("a", 33) + "\x01", api.ErrLong}, {"\x01\x21", api.ErrLong},
		{"\x01\x80\x01", api.ErrForm},
		{"\x01" + a + "\x00", api.ErrForm}, {"\x01" + a + "\x82\x01", api.ErrLong}, {"\x01" + a + "\x80\x01", api.ErrForm},
		{"\x01" + b31 + "\x01", api.ErrForm}, {"\x01\x00\x01", api.ErrForm},
		{"\x01" + b31 + "\x82\x01", api.ErrLong}, {"\x01" + b31, api.ErrShort},
		{"\x02" + a + "\x01" + b31 + "\x01", api.ErrForm}, {"\x02" + a + "\x01" + a + "\x00", api.ErrForm},
		{"\x02" + b31 + "\x01" + a, api.ErrForm}, {"\x02" + a + "\x00\x21", api.ErrForm}, {"\x02" + a + "\x00", api.ErrForm},
		{"\x02" + a + "\x01" + a + "\x82\x01", api.ErrLong}, {"\x02" + a + "\x01" + a, api.ErrShort},
		{"", api.ErrShort},
	} {
		r := pack.Open([]byte(x.b))
		if l := manifest.ReadPieces(r); l != nil || r.Err() != x.want || r.Left() != 0 {
			t.Errorf("%x: %+v, %d, not %d", x.b, l, r.Err(), x.want)
		}
	}
}

// P20.3: the bytes, behind what is there.
func TestPut(t *testing.T) {
	for _, g := range goods() {
		for _, ahead := range []string{"", "x", "ahead"} {
			if b := manifest.Put([]byte(ahead), g.l); string(b) != ahead+g.b {
				t.Errorf("%+v: %x", g.l, b)
			}
		}
	}
	if b := manifest.Put(nil, []api.Snap{{Space: "B", Bytes: -1, Time: 2, Keep: -3, Pieces: []api.Piece{{}}}, {Name: "a"}}); string(b) != "\x02\x01B\x00\x00\x02\x00\x01\x00\x00\x00\x01a\x00\x00\x00\x00" {
		t.Errorf("such that may not be: %x", b)
	}
}

// P20.3: what was written is read, whatever stands behind; bytes that end too
// early, at each place.
func TestRead(t *testing.T) {
	for _, g := range goods() {
		for _, more := range []string{"", "\x00", "more"} {
			r := pack.Open([]byte(g.b + more))
			if l := manifest.Read(r); !sameList(l, g.l) || r.Err() != api.OK || r.Left() != len(more) {
				t.Errorf("%+v: %+v, %d, %d are left", g.l, l, r.Err(), r.Left())
			}
		}
		for end := range g.b {
			r := pack.Open([]byte(g.b[:end]))
			if l := manifest.Read(r); l != nil || r.Err() != api.ErrShort || r.Left() != 0 {
				t.Errorf("the first %d bytes of %+v: %+v, %d", end, g.l, l, r.Err())
			}
		}
	}
	r := pack.Open(manifest.Put(nil, twelve()))
	if l := manifest.Read(r); !sameList(l, twelve()) || r.End() != api.OK {
		t.Errorf("of twelve: %+v, %d", l, r.Err())
	}
}

// P20.3, rule R7: the first error from left to right, each field with its
// limit; what may not be is told behind these.
func TestReadWrong(t *testing.T) {
	over, bad := "\xa0\x80\x80\x80\x80\x01", "\x80\x01" // 2^40 + 1, two forms
	a := "\x20" + sum('a')
	for _, x := range []struct {
		b    string
		want api.Errno
	}{
		{"\x0d", api.ErrLong}, {bad, api.ErrForm},
		{"\x01\x11" + name17, api.ErrLong}, {"\x01" + bad, api.ErrForm},
		{"\x01\x01a\x11" + name17, api.ErrLong}, {"\x01\x01a" + bad, api.ErrForm},
		{"\x01\x01a\x01x" + over, api.ErrLong}, {"\x01\x01a\x01x" + bad, api.ErrForm},
		{"\x01\x01a\x01x\x00" + over, api.ErrLong}, {"\x01\x01a\x01x\x00" + bad, api.ErrForm},
		{"\x01\x01a\x01x\x00\x00" + over, api.ErrLong}, {"\x01\x01a\x01x\x00\x00" + bad, api.ErrForm},
		{"\x01\x01a\x01x\x00\x00\x00\x09", api.ErrLong}, {"\x01\x01a\x01x\x00\x00\x00" + bad, api.ErrForm},
		{"\x01\x01a\x01x\x01\x00\x00\x01" + a + "\x82\x01", api.ErrLong},
		{"\x01\x01a\x01x\x01\x00\x00\x01" + a + "\x00", api.ErrForm},
		{"\x02\x01a\x01x\x01\x00\x00\x01" + a + "\x00", api.ErrForm},                                    // the piece ahead of the end
		{"\x01\x01A\x01x\x00\x00\x00\x00", api.ErrForm}, {"\x01\x01a\x00\x00\x00\x00\x00", api.ErrForm}, // no names
		{"\x01\x01A\x01x\x00\x00\x00", api.ErrShort}, {"\x01\x01A\x01x" + over, api.ErrLong},
		{"\x01\x01a\x01x\x02\x00\x00\x01" + a + "\x01", api.ErrForm}, {"\x01\x01a\x01x\x00\x00\x00\x01" + a + "\x01", api.ErrForm}, // not the sum
		{"\x01\x01a\x01x\xa0\x80\x80\x80\x80\x00\x00\x00\x00", api.ErrForm},
		{"\x02\x01a\x01x\x00\x00\x00\x00\x01a\x01x\x00\x00\x00\x00", api.ErrForm}, {"\x02\x01a\x01x\x00\x00\x00\x00\x01a\x01w\x00\x00\x00\x00", api.ErrForm},
		{"\x02\x01b\x01x\x00\x00\x00\x00\x01a\x01x\x00\x00\x00\x00", api.ErrForm}, {"\x02\x01b\x01x\x00\x00\x00\x00\x01a\x01x\x00\x00\x00", api.ErrShort},
		{"\x02\x01b\x01x\x00\x00\x00\x00\x01a\x01x" + over, api.ErrLong}, {"\x02\x01b\x01x\x05\x00\x00\x00\x11", api.ErrLong},
	} {
		r := pack.Open([]byte(x.b))
		if l := manifest.Read(r); l != nil || r.Err() != x.want || r.Left() != 0 {
			t.Errorf("%x: %+v, %d, not %d", x.b, l, r.Err(), x.want)
		}
	}
	for _, l := range wrongs() {
		r := pack.Open(manifest.Put(nil, l))
		if got := manifest.Read(r); got != nil && !manifest.Check(got) { // what is below 0 is written as 0
			t.Errorf("%+v: %+v, %d", l, got, r.Err())
		}
	}
}

// P20.3: a reader that has an error already, or that no call made.
func TestReadNone(t *testing.T) {
	r := pack.Open([]byte("\x00\x00"))
	r.Fail(api.ErrSum)
	if l, p := manifest.Read(r), manifest.ReadPieces(r); l != nil || p != nil || r.Err() != api.ErrSum {
		t.Errorf("%+v, %+v, %d", l, p, r.Err())
	}
	for _, r := range []*pack.Reader{nil, {}} {
		if l, p := manifest.Read(r), manifest.ReadPieces(r); l != nil || p != nil || r.Err() != api.ErrNil {
			t.Errorf("%+v, %+v, %d", l, p, r.Err())
		}
	}
}

// P20.3: field by field, in order, of such that may not be, too.
func TestSame(t *testing.T) {
	all := func() []api.Snap {
		return []api.Snap{snap("b.b", 2), {Space: "A", Bytes: -1, Pieces: []api.Piece{{}}}, {}}
	}
	empty := []api.Snap{{Pieces: []api.Piece{}}}
	if !manifest.Same(all(), all()) || !manifest.Same(nil, nil) || !manifest.Same(nil, []api.Snap{}) || !manifest.Same(empty, []api.Snap{{}}) {
		t.Error("the same are not")
	}
	for i := range all() {
		for _, change := range []func(s *api.Snap){
			func(s *api.Snap) { s.Space += "a" }, func(s *api.Snap) { s.Name += "a" }, func(s *api.Snap) { s.Bytes++ }, func(s *api.Snap) { s.Time-- }, func(s *api.Snap) { s.Keep++ },
			func(s *api.Snap) { s.Pieces = append(s.Pieces, api.Piece{}) }, func(s *api.Snap) { s.Pieces = append([]api.Piece{{Sum: "x"}}, s.Pieces[min(1, len(s.Pieces)):]...) },
		} {
			l := all()
			change(&l[i])
			if manifest.Same(l, all()) || manifest.Same(all(), l) {
				t.Errorf("%+v", l)
			}
		}
	}
	turned := all()
	turned[0], turned[1] = turned[1], turned[0]
	for _, l := range [][]api.Snap{nil, all()[1:], all()[:2], append(all(), api.Snap{}), turned} {
		if manifest.Same(l, all()) || manifest.Same(all(), l) {
			t.Errorf("%+v", l)
		}
	}
}

// P20.3: pieces field by field, in order.
func TestSamePieces(t *testing.T) {
	all := []api.Piece{{Sum: "b", Size: -1}, {Sum: sum('a'), Size: 2}, {}}
	if !manifest.SamePieces(all, slices.Clone(all)) || !manifest.SamePieces(nil, nil) || !manifest.SamePieces(nil, []api.Piece{}) {
		t.Error("the same are not")
	}
	for _, l := range [][]api.Piece{
		nil, all[1:], all[:2], append(slices.Clone(all), api.Piece{}), {all[1], all[0], all[2]},
		{{Sum: "b", Size: 1}, all[1], all[2]}, {{Sum: "c", Size: -1}, all[1], all[2]}, {all[0], all[1], {Size: 1}}, {all[0], all[1], {Sum: "x"}},
	} {
		if manifest.SamePieces(l, all) || manifest.SamePieces(all, l) {
			t.Errorf("%+v", l)
		}
	}
}

// P20.4: of such that may be Add and Remove make such that may be, with all
// others as they were; Remove of what Add added comes to the same as ahead.
func TestAddRemove(t *testing.T) {
	rnd := rand.New(rand.NewSource(20))
	added, full := 0, 0
	for range 200 {
		var l []api.Snap
		for range 60 {
			s := snap(string(rune('a'+rnd.Intn(4)))+"."+string(rune('a'+rnd.Intn(6))), rnd.Intn(9))
			next, e := manifest.Add(l, s)
			switch _, there := manifest.Find(l, s.Space, s.Name); {
			case there:
				if e != api.ErrExists || !sameList(next, l) {
					t.Fatalf("%+v into %+v: %+v, %d", s, l, next, e)
				}
				next, n, e := manifest.Remove(l, s.Space, s.Name, 18)
				if _, there := manifest.Find(next, s.Space, s.Name); e != api.OK || there || len(next) != len(l)-1 || n > 36 || !manifest.Check(next) {
					t.Fatalf("%+v from %+v: %+v, %d", s, l, next, e)
				}
				if rnd.Intn(3) == 0 {
					l = next
				}
				continue
			case len(l) == 12:
				full++
				if e != api.ErrFull || !sameList(next, l) {
					t.Fatalf("%+v into %+v: %+v, %d", s, l, next, e)
				}
				continue
			}
			added++
			if got, ok := manifest.Find(next, s.Space, s.Name); e != api.OK || !manifest.Check(next) || !same(got, s) || !ok {
				t.Fatalf("%+v into %+v: %+v, %d", s, l, next, e)
			}
			if back, n, e := manifest.Remove(next, s.Space, s.Name, s.Keep); e != api.OK || n != s.Bytes || !sameList(back, l) {
				t.Fatalf("%+v into %+v and out: %+v, %d", s, l, back, e)
			}
			r := pack.Open(manifest.Put(nil, next))
			if back := manifest.Read(r); !manifest.Same(back, next) || r.End() != api.OK {
				t.Fatalf("%+v: %+v, %d", next, back, r.Err())
			}
			l = next
		}
	}
	if added < 2000 || full < 1000 {
		t.Errorf("%d were added, %d refused", added, full)
	}
}

// spoil changes all of what stands in l, in the room behind it, and in its pieces.
func spoil(l []api.Snap) {
	for _, s := range l {
		clear(s.Pieces[:cap(s.Pieces)])
	}
	clear(l[:cap(l)])
}

// Rule R3: what is handed in is neither changed nor kept, what is answered is
// the caller's own.
func TestNothingShared(t *testing.T) {
	ours := func() []api.Snap { return []api.Snap{snap("a.a", 2), snap("b.b", 3), snap("d.d", 4)} }
	full := append(twelve(), list("e.e")...)[:12]
	s := snap("c.c", 5)
	calls := map[string]func(l []api.Snap) []api.Snap{
		"Add":         func(l []api.Snap) []api.Snap { x, _ := manifest.Add(l, s); return x },
		"Add at last": func(l []api.Snap) []api.Snap { x, _ := manifest.Add(l, snap("e.e", 1)); return x },
		"Add none":    func(l []api.Snap) []api.Snap { x, _ := manifest.Add(l, api.Snap{}); return x },
		"Add twice":   func(l []api.Snap) []api.Snap { x, _ := manifest.Add(l, l[1]); return x },
		"Remove":      func(l []api.Snap) []api.Snap { x, _, _ := manifest.Remove(l, "a", "a", late); return x },
		"Remove not":  func(l []api.Snap) []api.Snap { x, _, _ := manifest.Remove(l, "a", "a", 0); return x },
		"Remove none": func(l []api.Snap) []api.Snap { x, _, _ := manifest.Remove(l, "a", "x", late); return x },
		"Find":        func(l []api.Snap) []api.Snap { x, _ := manifest.Find(l, "b", "b"); return []api.Snap{x} },
	}
	for name, call := range calls {
		room := append(make([]api.Snap, 0, 10), ours()...)
		spoil(call(room))
		if !sameList(room, ours()) || !sameList(room[3:10], make([]api.Snap, 7)) || !same(s, snap("c.c", 5)) {
			t.Errorf("%s: %+v, %+v", name, room[:10], s)
		}
		got := call(room)
		want := copied(got)
		spoil(room)
		if !sameList(got, want) {
			t.Errorf("%s is kept", name)
		}
	}
	got, e := manifest.Add(nil, s)
	clear(s.Pieces)
	if e != api.OK || !sameList(got, []api.Snap{snap("c.c", 5)}) {
		t.Errorf("what was added is kept: %+v", got)
	}
	refused, _ := manifest.Add(full, snap("x.x", 1))
	spoil(refused)
	if !sameList(full, twelve()) {
		t.Errorf("beside ErrFull: %+v", full)
	}
}

// Rule R3: of bytes and texts, too.
func TestNoBytesShared(t *testing.T) {
	room := append(make([]byte, 0, 256), "ahead"...)
	first := manifest.Put(room, []api.Snap{{Space: "a", Name: "x"}})
	firstPieces := manifest.PutPieces(room, pieces(1))
	manifest.Put(room, list("b.b"))
	manifest.PutPieces(room, pieces(2, 2))
	if string(room[:256]) != "ahead"+string(make([]byte, 251)) || string(first) != "ahead\x01\x01a\x01x\x00\x00\x00\x00" || string(firstPieces) != "ahead\x01\x20"+sum('a')+"\x01" {
		t.Errorf("%q, %q, %q", room[:256], first, firstPieces)
	}
	clear(first[:cap(first)])
	clear(firstPieces[:cap(firstPieces)])
	if string(room) != "ahead" {
		t.Errorf("%q", room)
	}
	b := manifest.Put(nil, twelve())
	l := manifest.Read(pack.Open(b))
	clear(b)
	if !sameList(l, twelve()) {
		t.Errorf("Read's are shared: %+v", l)
	}
	names, needs := manifest.Names(l, "a"), manifest.Needs(l)
	names[0], needs[0] = "", ""
	if !sameList(l, twelve()) {
		t.Errorf("%+v", l)
	}
}

// The chapter's example.
func TestExample(t *testing.T) {
	p := pieces(7)
	l := []api.Snap{{Space: "a", Name: "x", Bytes: 7, Pieces: p}, {Space: "a", Name: "y", Bytes: 7, Pieces: p}}
	if got := manifest.Needs(l); !slices.Equal(got, []string{sum('a')}) {
		t.Errorf("%q", got)
	}
}

// P20.3: any bytes: what is taken may be, and has just those bytes.
func FuzzRead(f *testing.F) {
	for _, g := range goods() {
		f.Add([]byte(g.b))
	}
	f.Fuzz(func(t *testing.T, b []byte) {
		r := pack.Open(b)
		l := manifest.Read(r)
		if r.Err() != api.OK {
			if l != nil || r.Err() != api.ErrShort && r.Err() != api.ErrForm && r.Err() != api.ErrLong {
				t.Errorf("%x: %+v, %d", b, l, r.Err())
			}
			return
		}
		if taken := b[:len(b)-r.Left()]; !manifest.Check(l) || string(manifest.Put(nil, l)) != string(taken) {
			t.Errorf("%x: %+v", b, l)
		}
	})
}
