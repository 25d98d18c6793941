package command_test

import (
	"bytes"
	"fmt"
	"math"
	"math/rand"
	"slices"
	"strings"
	"testing"

	"bailey/api"
	"bailey/command"
)

const (
	least    = math.MinInt
	greatest = math.MaxInt
	num      = api.MaxNum
	big      = api.MaxBytes // and MaxTime
	name16   = "abcdefghij_-0189"
	name17   = name16 + "z"
	numCode  = "\x88\x80\x80\x80\x00"     // 2^31
	bigCode  = "\xa0\x80\x80\x80\x80\x00" // 2^40
)

// sum is 32 bytes, of which the first one tells them apart.
func sum(first byte) string { return string([]byte{first}) + strings.Repeat("\xfe", 31) }

// pieces are such of these sizes, with the sums a, b and so on.
func pieces(sizes ...int) []api.Piece {
	var l []api.Piece
	for i, n := range sizes {
		l = append(l, api.Piece{Sum: sum(byte('a' + i)), Size: n})
	}
	return l
}

// caveats are so many that may be, of all kinds.
func caveats(n int) []api.Caveat {
	all := []api.Caveat{
		{Kind: 4, Num: 5}, {Kind: 2, Name: "a"}, {Kind: 3, Name: name16}, {Kind: 1, Num: 255},
		{Kind: 5, Num: 7}, {Kind: 6, Num: big}, {Kind: 4, Num: 5}, {Kind: 1}, {Kind: 4, Num: 0},
	}
	return all[:n]
}

// plain is a command with as little as may be.
func plain() api.Command { return api.Command{Seq: 1, Kind: api.OpMint, ID: 1} }

// whole is a command whose every field has something of its own.
func whole() api.Command {
	return api.Command{
		Client: 7, Seq: 2, Kind: api.OpCommit, ID: 3, Epoch: 4, Caveats: caveats(2),
		Space: "sp", Name: "na", Num: 5, Bytes: 6, Time: 300, Pieces: pieces(8, 256),
	}
}

// wholeCode are the parts of whole's bytes, a field each.
func wholeCode() []string {
	return []string{
		"\x07", "\x02", "\x04", "\x03", "\x04", "\x02\x04\x05\x02\x01a",
		"\x02sp", "\x02na", "\x05", "\x06", "\x82\x2c", "\x02\x20" + sum('a') + "\x08\x20" + sum('b') + "\x82\x00",
	}
}

// with is the plain command, changed.
func with(change func(x *api.Command)) api.Command {
	x := plain()
	change(&x)
	return x
}

// numbers are a command's fields that are numbers, each with its limits.
func numbers() map[string]struct {
	at        func(x *api.Command) *int
	low, high int
} {
	return map[string]struct {
		at        func(x *api.Command) *int
		low, high int
	}{
		"Client": {func(x *api.Command) *int { return &x.Client }, 0, 7},
		"Seq":    {func(x *api.Command) *int { return &x.Seq }, 1, num},
		"Kind":   {func(x *api.Command) *int { return &x.Kind }, 1, 14},
		"ID":     {func(x *api.Command) *int { return &x.ID }, 1, num},
		"Epoch":  {func(x *api.Command) *int { return &x.Epoch }, 0, num},
		"Num":    {func(x *api.Command) *int { return &x.Num }, 0, num},
		"Bytes":  {func(x *api.Command) *int { return &x.Bytes }, 0, big},
		"Time":   {func(x *api.Command) *int { return &x.Time }, 0, big},
	}
}

// texts are a command's fields that are texts.
func texts() map[string]func(x *api.Command) *string {
	return map[string]func(x *api.Command) *string{
		"Space": func(x *api.Command) *string { return &x.Space },
		"Name":  func(x *api.Command) *string { return &x.Name },
	}
}

func notNames() []string {
	return []string{name17, strings.Repeat("a", 300), "A", "aB", "a b", " ", "a.b", "a/b", "\x00", "a\x00", "ä", "\xff", "a\n", "`", "{", ":"}
}

// wrongCaveats may not be, in whatever command.
func wrongCaveats() []api.Caveat {
	return []api.Caveat{
		{}, {Kind: 7}, {Kind: -1}, {Kind: greatest}, {Kind: 1, Num: 256}, {Kind: 1, Num: -1}, {Kind: 1, Name: "a"},
		{Kind: 2}, {Kind: 2, Name: "A"}, {Kind: 2, Name: name17}, {Kind: 2, Name: "a", Num: 1}, {Kind: 3},
		{Kind: 4, Num: big + 1}, {Kind: 4, Num: -1}, {Kind: 5, Num: 8}, {Kind: 6, Num: big + 1}, {Kind: 6, Num: 1, Name: "a"},
	}
}

func wrongPieces() []api.Piece {
	return []api.Piece{
		{}, {Size: 1}, {Sum: sum('a')}, {Sum: sum('a'), Size: 257}, {Sum: sum('a'), Size: -1}, {Sum: sum('a'), Size: least}, {Sum: sum('a'), Size: greatest},
		{Sum: sum('a')[1:], Size: 1}, {Sum: sum('a') + "a", Size: 1}, {Sum: "a", Size: 1},
	}
}

// goods are commands that may be, at the edges of what may be, and their bytes.
func goods() []struct {
	x api.Command
	b string
} {
	return []struct {
		x api.Command
		b string
	}{
		{plain(), "\x00\x01\x09\x01\x00\x00\x00\x00\x00\x00\x00\x00"},
		{with(func(x *api.Command) { x.Caveats, x.Pieces = []api.Caveat{}, []api.Piece{} }), "\x00\x01\x09\x01\x00\x00\x00\x00\x00\x00\x00\x00"},
		{whole(), strings.Join(wholeCode(), "")},
		{
			api.Command{Client: 7, Seq: num, Kind: 14, ID: num, Epoch: num, Space: name16, Name: name16, Num: num, Bytes: big, Time: big},
			"\x07" + numCode + "\x0e" + numCode + numCode + "\x00\x10" + name16 + "\x10" + name16 + numCode + bigCode + bigCode + "\x00",
		},
		{
			with(func(x *api.Command) { x.Kind, x.Caveats = 1, caveats(8) }),
			"\x00\x01\x01\x01\x00\x08\x04\x05\x02\x01a\x03\x10" + name16 + "\x01\x81\x7f\x05\x07\x06" + bigCode + "\x04\x05\x01\x00\x00\x00\x00\x00\x00\x00",
		},
		{
			with(func(x *api.Command) { x.Pieces = pieces(1, 2, 3, 4, 5, 6, 7, 256) }),
			"\x00\x01\x09\x01\x00\x00\x00\x00\x00\x00\x00\x08\x20" + sum('a') + "\x01\x20" + sum('b') + "\x02\x20" + sum('c') + "\x03\x20" + sum('d') + "\x04\x20" +
				sum('e') + "\x05\x20" + sum('f') + "\x06\x20" + sum('g') + "\x07\x20" + sum('h') + "\x82\x00",
		},
		{
			with(func(x *api.Command) { x.Pieces = append(pieces(1), pieces(1)...) }), // one piece twice
			"\x00\x01\x09\x01\x00\x00\x00\x00\x00\x00\x00\x02\x20" + sum('a') + "\x01\x20" + sum('a') + "\x01",
		},
		{with(func(x *api.Command) { x.Space, x.Name = "-", "_" }), "\x00\x01\x09\x01\x00\x00\x01-\x01_\x00\x00\x00\x00"},
	}
}

// wrongs are commands of which one thing may not be.
func wrongs() []api.Command {
	l := []api.Command{
		{}, {Kind: api.OpMint}, {Kind: api.OpMint, ID: 1}, {Kind: api.OpMint, Seq: 1}, {Seq: 1, ID: 1},
		with(func(x *api.Command) { x.Caveats = caveats(9) }), with(func(x *api.Command) { x.Caveats = make([]api.Caveat, 1000) }),
		with(func(x *api.Command) { x.Pieces = pieces(1, 1, 1, 1, 1, 1, 1, 1, 1) }), with(func(x *api.Command) { x.Pieces = make([]api.Piece, 1000) }),
	}
	for _, f := range numbers() {
		for _, n := range []int{least, f.low - 1, f.high + 1, greatest, 1<<32 + f.low} {
			if n < f.low || n > f.high {
				l = append(l, with(func(x *api.Command) { *f.at(x) = n }))
			}
		}
	}
	for _, at := range texts() {
		for _, s := range notNames() {
			l = append(l, with(func(x *api.Command) { *at(x) = s }))
		}
	}
	for _, c := range wrongCaveats() {
		for i := range 3 {
			l = append(l, with(func(x *api.Command) { x.Caveats = slices.Insert(slices.Clone(caveats(2)), i, c) }))
		}
		l = append(l, with(func(x *api.Command) { x.Caveats = append(slices.Clone(caveats(7)), c) }))
	}
	for _, p := range wrongPieces() {
		for i := range 3 {
			l = append(l, with(func(x *api.Command) { x.Pieces = slices.Insert(pieces(1, 2), i, p) }))
		}
		l = append(l, with(func(x *api.Command) { x.Pieces = append(pieces(1, 2, 3, 4, 5, 6, 7), p) }))
	}
	return l
}

// alike holds a and b against each other without the package's own Same.
func alike(a, b api.Command) bool {
	a.Caveats, b.Caveats = append([]api.Caveat{}, a.Caveats...), append([]api.Caveat{}, b.Caveats...)
	a.Pieces, b.Pieces = append([]api.Piece{}, a.Pieces...), append([]api.Piece{}, b.Pieces...)
	return fmt.Sprintf("%#v", a) == fmt.Sprintf("%#v", b)
}

// none tells whether x is the zero command.
func none(x api.Command) bool { return alike(x, api.Command{}) }

// copied is x in memory of its own.
func copied(x api.Command) api.Command {
	x.Caveats, x.Pieces = slices.Clone(x.Caveats), slices.Clone(x.Pieces)
	return x
}

// P23.1: which may be.
func TestCheck(t *testing.T) {
	for _, g := range goods() {
		if e := command.Check(g.x); e != api.OK {
			t.Errorf("%+v: %d", g.x, e)
		}
	}
	for _, x := range wrongs() {
		if e := command.Check(x); e != api.ErrArg {
			t.Errorf("%+v: %d", x, e)
		}
	}
}

// P23.1: each number at its least and its greatest, one below and one above.
func TestCheckNumbers(t *testing.T) {
	for what, f := range numbers() {
		for n, want := range map[int]api.Errno{
			f.low - 1: api.ErrArg, f.low: api.OK, f.low + 1: api.OK, f.high - 1: api.OK, f.high: api.OK, f.high + 1: api.ErrArg,
		} {
			for i, x := range []api.Command{plain(), whole()} {
				*f.at(&x) = n
				if e := command.Check(x); e != want {
					t.Errorf("%s %d of command %d: %d", what, n, i, e)
				}
			}
		}
	}
}

// P23.1: a text is a name, or "".
func TestCheckTexts(t *testing.T) {
	for what, at := range texts() {
		for _, s := range []string{"", "a", "z", "0", "9", "-", "_", "aa", name16, name16[1:]} {
			x := whole()
			*at(&x) = s
			if e := command.Check(x); e != api.OK {
				t.Errorf("%s %q: %d", what, s, e)
			}
		}
		for _, s := range notNames() {
			x := whole()
			*at(&x) = s
			if e := command.Check(x); e != api.ErrArg {
				t.Errorf("%s %q: %d", what, s, e)
			}
		}
	}
}

// P23.1: at most 8 caveats, and 8 pieces.
func TestCheckLists(t *testing.T) {
	for n := range 10 {
		want := api.OK
		if n > 8 {
			want = api.ErrArg
		}
		x, y := whole(), whole()
		x.Caveats, y.Pieces = caveats(n), pieces(make([]int, n)...)
		for i := range y.Pieces {
			y.Pieces[i].Size = 256
		}
		if e := command.Check(x); e != want {
			t.Errorf("%d caveats: %d", n, e)
		}
		if e := command.Check(y); e != want {
			t.Errorf("%d pieces: %d", n, e)
		}
	}
}

// P23.1: the bytes; none of one that may not be.
func TestEncode(t *testing.T) {
	for _, g := range goods() {
		if b, e := command.Encode(g.x); string(b) != g.b || e != api.OK {
			t.Errorf("%+v: %x, %d", g.x, b, e)
		}
	}
	for _, x := range wrongs() {
		if b, e := command.Encode(x); len(b) != 0 || e != api.ErrArg {
			t.Errorf("%+v: %x, %d", x, b, e)
		}
	}
}

// P23.1, P23.3: what was written is read.
func TestDecode(t *testing.T) {
	for _, g := range goods() {
		if x, e := command.Decode([]byte(g.b)); !alike(x, g.x) || e != api.OK {
			t.Errorf("%x: %+v, %d", g.b, x, e)
		}
		for _, more := range []string{"\x00", "\x80", "more"} {
			if x, e := command.Decode([]byte(g.b + more)); !none(x) || e != api.ErrForm {
				t.Errorf("%x and %q: %+v, %d", g.b, more, x, e)
			}
		}
	}
}

// P23.1: bytes that end too early, at each place.
func TestDecodeShort(t *testing.T) {
	for _, g := range goods() {
		for end := range g.b {
			if x, e := command.Decode([]byte(g.b[:end])); !none(x) || e != api.ErrShort {
				t.Errorf("the first %d bytes of %x: %+v, %d", end, g.b, x, e)
			}
		}
	}
}

// wrongParts are, of each field (by its place), bytes that are not taken there.
func wrongParts() map[int]map[string]api.Errno {
	over, far := "\x88\x80\x80\x80\x01", "\xa0\x80\x80\x80\x80\x01" // one above 2^31, and above 2^40
	nine := "\x09" + strings.Repeat("\x04\x05", 9)
	text := map[string]api.Errno{
		"\x11" + name17: api.ErrLong, "\x82\x2c" + strings.Repeat("a", 300): api.ErrLong, "\x80\x01a": api.ErrForm,
		"\x01A": api.ErrForm, "\x10" + strings.Repeat("a", 15) + " ": api.ErrForm, "\x02\xc3\xa4": api.ErrForm, "\x01\x00": api.ErrForm,
	}
	return map[int]map[string]api.Errno{
		0: {"\x08": api.ErrLong, "\x81\x00": api.ErrLong, "\x80\x01": api.ErrForm},
		1: {"\x00": api.ErrForm, over: api.ErrLong, "\x80\x01": api.ErrForm},
		2: {"\x00": api.ErrForm, "\x0f": api.ErrLong, "\x10": api.ErrLong, "\x81\x00": api.ErrLong, "\x80\x04": api.ErrForm},
		3: {"\x00": api.ErrForm, over: api.ErrLong, "\x80\x01": api.ErrForm},
		4: {over: api.ErrLong, far: api.ErrLong, "\x80\x01": api.ErrForm, strings.Repeat("\xff", 9): api.ErrForm},
		5: {
			nine: api.ErrLong, "\x80\x00": api.ErrForm, "\x01\x00": api.ErrForm, "\x01\x07\x01": api.ErrLong, "\x01\x01\x82\x00": api.ErrLong,
			"\x01\x04" + far: api.ErrLong, "\x01\x05\x08": api.ErrLong, "\x01\x06" + far: api.ErrLong, "\x01\x02\x00": api.ErrForm, "\x01\x03\x01A": api.ErrForm,
			"\x01\x02\x11" + name17: api.ErrLong, "\x02\x04\x05\x07\x00": api.ErrLong, "\x02\x00\x04\x05": api.ErrForm, "\x02\x04\x05\x00\x00": api.ErrForm,
		},
		6:  text,
		7:  text,
		8:  {over: api.ErrLong, "\x80\x01": api.ErrForm},
		9:  {far: api.ErrLong, "\x80\x01": api.ErrForm},
		10: {far: api.ErrLong, "\x80\x01": api.ErrForm},
		11: {
			"\x09" + strings.Repeat("\x20"+sum('a')+"\x01", 9): api.ErrLong, "\x80\x00": api.ErrForm, "\x01\x21" + sum('a') + "a\x01": api.ErrLong,
			"\x01\x20" + sum('a') + "\x82\x01": api.ErrLong, "\x01\x20" + sum('a') + "\x00": api.ErrForm, "\x01\x1f" + sum('a')[1:] + "\x01": api.ErrForm, "\x01\x00\x01": api.ErrForm,
			"\x02\x20" + sum('a') + "\x01\x20" + sum('a') + "\x82\x01": api.ErrLong, "\x02\x20" + sum('a') + "\x00\x20" + sum('a') + "\x82\x01": api.ErrForm,
		},
	}
}

// P23.1, R7: each field beyond its limit, and such that may not be.
func TestDecodeWrong(t *testing.T) {
	for at, parts := range wrongParts() {
		for part, want := range parts {
			code := wholeCode()
			code[at] = part
			b := strings.Join(code, "")
			if x, e := command.Decode([]byte(b)); !none(x) || e != want {
				t.Errorf("field %d is %x: %+v, %d, not %d", at, part, x, e, want)
			}
		}
	}
}

// R7: of two fields beyond their limits the first one's error stays; what may
// not be is told behind these.
func TestDecodeFirst(t *testing.T) {
	first := map[int]string{0: "\x08", 1: "\x80\x01", 2: "\x0f", 4: "\x80\x01", 5: "\x01\x07\x01", 6: "\x11" + name17, 8: "\x80\x01", 9: "\xa0\x80\x80\x80\x80\x01", 11: "\x80\x00"}
	for a, x := range first {
		for b, y := range first {
			if a >= b {
				continue
			}
			code := wholeCode()
			code[a], code[b] = x, y
			if _, e := command.Decode([]byte(strings.Join(code, ""))); e != wrongOf(x) {
				t.Errorf("fields %d and %d: %d", a, b, e)
			}
		}
	}
	for _, at := range []int{1, 2, 3, 6, 7} {
		part := "\x00"
		if at > 5 {
			part = "\x01A"
		}
		code := wholeCode()
		code[at] = part
		b := strings.Join(code, "")
		if _, e := command.Decode([]byte(b[:len(b)-1])); e != api.ErrShort {
			t.Errorf("field %d may not be, too short: %d", at, e)
		}
		code[10] = "\xa0\x80\x80\x80\x80\x01"
		if _, e := command.Decode([]byte(strings.Join(code, ""))); e != api.ErrLong {
			t.Errorf("field %d may not be, and the time is above its limit: %d", at, e)
		}
		if _, e := command.Decode([]byte(b + "more")); e != api.ErrForm {
			t.Errorf("field %d may not be, and more bytes: %d", at, e)
		}
	}
}

// wrongOf is the error of a part of TestDecodeFirst: a form is told by its
// first byte.
func wrongOf(part string) api.Errno {
	if part[0] == 0x80 {
		return api.ErrForm
	}
	return api.ErrLong
}

// P23.1: field by field, of commands that may not be, too.
func TestSame(t *testing.T) {
	if !command.Same(whole(), whole()) || !command.Same(api.Command{}, api.Command{}) || !command.Same(api.Command{Kind: -1, Num: least}, api.Command{Kind: -1, Num: least}) {
		t.Error("the same are not")
	}
	if !command.Same(api.Command{}, api.Command{Caveats: []api.Caveat{}, Pieces: []api.Piece{}}) {
		t.Error("nil lists and empty ones are not the same")
	}
	changes := []func(x *api.Command){
		func(x *api.Command) { x.Space, x.Name = x.Name, x.Space },
		func(x *api.Command) { x.Seq, x.ID = x.ID, x.Seq },
		func(x *api.Command) { x.Num, x.Bytes = x.Bytes, x.Num },
		func(x *api.Command) { x.Caveats = nil },
		func(x *api.Command) { x.Caveats = x.Caveats[:1] },
		func(x *api.Command) { x.Caveats = append(slices.Clone(x.Caveats), api.Caveat{}) },
		func(x *api.Command) { x.Caveats[0].Kind++ },
		func(x *api.Command) { x.Caveats[0].Num++ },
		func(x *api.Command) { x.Caveats[1].Name += "a" },
		func(x *api.Command) { slices.Reverse(x.Caveats) },
		func(x *api.Command) { x.Pieces = nil },
		func(x *api.Command) { x.Pieces = x.Pieces[:1] },
		func(x *api.Command) { x.Pieces = append(slices.Clone(x.Pieces), api.Piece{}) },
		func(x *api.Command) { x.Pieces[0].Size++ },
		func(x *api.Command) { x.Pieces[1].Sum = sum('z') },
		func(x *api.Command) { slices.Reverse(x.Pieces) },
	}
	for _, f := range numbers() {
		changes = append(changes, func(x *api.Command) { *f.at(x)++ }, func(x *api.Command) { *f.at(x) = 0 }, func(x *api.Command) { *f.at(x) = -*f.at(x) })
	}
	for _, at := range texts() {
		changes = append(changes, func(x *api.Command) { *at(x) = "" }, func(x *api.Command) { *at(x) += "x" }, func(x *api.Command) { *at(x) = (*at(x))[:1] })
	}
	for i, change := range changes {
		x := copied(whole())
		change(&x)
		if command.Same(whole(), x) || command.Same(x, whole()) {
			t.Errorf("change %d: the same", i)
		}
	}
}

// kinds are all of the operations, and numbers that are none.
func kinds() []int {
	l := []int{least, -256, -1, 1 << 8, 1<<32 + 1, greatest}
	for kind := range 32 {
		l = append(l, kind)
	}
	return l
}

// P23.2: which only read.
func TestReads(t *testing.T) {
	for _, kind := range kinds() {
		if command.Reads(kind) != (kind == 12 || kind == 13 || kind == 14) {
			t.Errorf("%d", kind)
		}
	}
}

// P23.2: what a kind does.
func TestAction(t *testing.T) {
	want := map[int]int{1: 1, 2: 2, 3: 2, 4: 4, 5: 32, 6: 128, 7: 128, 8: 128, 9: 128, 10: 64, 11: 128, 12: 8, 13: 16, 14: 8, 15: 128}
	for _, kind := range kinds() {
		if got := command.Action(kind); got != want[kind] {
			t.Errorf("%d: %d", kind, got)
		}
	}
}

// P23.2: the deed of each kind, of no kinds, and of commands that may not be.
func TestDeed(t *testing.T) {
	for _, kind := range kinds() {
		for _, time := range []int{least, -1, 0, 9, big, greatest} {
			x := whole()
			x.Kind = kind
			want := api.Deed{Action: command.Action(kind), Time: time, Client: 7, Space: "sp", Snap: "na"}
			switch kind {
			case 2:
				want.Bytes = 6
			case 4:
				want.Bytes = 264
			}
			if d := command.Deed(x, time); d != want {
				t.Errorf("%d at %d: %+v", kind, time, d)
			}
		}
	}
	wild := api.Command{Client: least, Kind: api.OpReserve, Space: name17, Name: "A", Bytes: greatest}
	if d := command.Deed(wild, 3); d != (api.Deed{Action: api.AcReserve, Time: 3, Client: least, Bytes: greatest, Space: name17, Snap: "A"}) {
		t.Errorf("of one that may not be: %+v", d)
	}
	if d := command.Deed(api.Command{}, 0); d != (api.Deed{}) {
		t.Errorf("of the zero command: %+v", d)
	}
}

// P23.2: the bytes of a commit are its pieces', none of such that may not be.
func TestDeedOfCommit(t *testing.T) {
	for want, l := range map[int][]api.Piece{0: nil, 1: pieces(1), 6: pieces(1, 2, 3), 2048: pieces(256, 256, 256, 256, 256, 256, 256, 256)} {
		if d := command.Deed(api.Command{Kind: api.OpCommit, Bytes: 77, Pieces: l}, 0); d.Bytes != want {
			t.Errorf("%d: %d", want, d.Bytes)
		}
		if d := command.Deed(api.Command{Kind: api.OpReserve, Bytes: 77, Pieces: l}, 0); d.Bytes != 77 {
			t.Errorf("a reservation with pieces of %d: %d", want, d.Bytes)
		}
	}
	wrong := [][]api.Piece{pieces(1, 1, 1, 1, 1, 1, 1, 1, 1)}
	for _, p := range wrongPieces() {
		wrong = append(wrong, []api.Piece{p}, append(pieces(5), p), append([]api.Piece{p}, pieces(5)...))
	}
	for _, l := range wrong {
		if d := command.Deed(api.Command{Kind: api.OpCommit, Bytes: 77, Pieces: l}, 0); d.Bytes != 0 || d.Action != api.AcCommit {
			t.Errorf("%+v: %+v", l, d)
		}
	}
}

// request is one whose every field has something of its own.
func request() api.Request {
	return api.Request{
		Lane: 1, Client: 2, Seq: 3, Kind: 4, Token: api.Token{Lane: 5, ID: 6, Epoch: 7, Caveats: caveats(3), Tag: sum('t')},
		Space: "sp", Name: "na", Num: 8, Bytes: 9, Time: 10, Pieces: pieces(1, 2), Data: []byte("data"), Ticket: sum('u'),
	}
}

// P23.2: the command that a request asks for.
func TestOf(t *testing.T) {
	want := api.Command{Client: 2, Seq: 3, Kind: 4, ID: 6, Epoch: 7, Caveats: caveats(3), Space: "sp", Name: "na", Num: 8, Bytes: 9, Time: 10, Pieces: pieces(1, 2)}
	if x := command.Of(request()); !alike(x, want) {
		t.Errorf("%+v", x)
	}
	if x := command.Of(api.Request{}); !none(x) {
		t.Errorf("of the zero request: %+v", x)
	}
	wild := api.Request{Client: least, Seq: -1, Kind: 99, Token: api.Token{ID: greatest, Epoch: -2, Caveats: wrongCaveats()}, Space: name17, Name: "A", Num: -3, Bytes: least, Time: greatest, Pieces: wrongPieces()}
	want = api.Command{Client: least, Seq: -1, Kind: 99, ID: greatest, Epoch: -2, Caveats: wrongCaveats(), Space: name17, Name: "A", Num: -3, Bytes: least, Time: greatest, Pieces: wrongPieces()}
	if x := command.Of(wild); !alike(x, want) {
		t.Errorf("of one that may not be: %+v", x)
	}
}

// random is a command that may be, now and then at its limits.
func random(r *rand.Rand) api.Command {
	x := api.Command{Caveats: slices.Clone(caveats(r.Intn(9))), Pieces: pieces(make([]int, r.Intn(9))...)}
	for _, f := range numbers() {
		*f.at(&x) = f.low + r.Intn(f.high-f.low+1)
		if r.Intn(3) == 0 {
			*f.at(&x) = f.low + r.Intn(min(f.high-f.low+1, 200))
		}
	}
	for i := range x.Pieces {
		x.Pieces[i].Size = 1 + r.Intn(256)
	}
	for _, at := range texts() {
		*at(&x) = name16[:r.Intn(17)]
	}
	return x
}

// P23.3: Decode of Encode is the command; two have the same bytes just if they
// are the same.
func TestThereAndBack(t *testing.T) {
	r := rand.New(rand.NewSource(23))
	ahead, aheadBytes := plain(), []byte(nil)
	for i := range 4000 {
		x := random(r)
		if i%3 == 0 { // one field alone differs, or none
			x = copied(ahead)
			x.Num = r.Intn(2)
		}
		b, e := command.Encode(x)
		back, f := command.Decode(b)
		if e != api.OK || f != api.OK || !alike(back, x) || !command.Same(back, x) {
			t.Fatalf("%+v: %d; %+v, %d", x, e, back, f)
		}
		if len(b) > api.MaxEntry {
			t.Fatalf("%+v: %d bytes", x, len(b))
		}
		if i > 0 && (alike(x, ahead) != bytes.Equal(b, aheadBytes) || alike(x, ahead) != command.Same(x, ahead)) {
			t.Fatalf("%+v and %+v: %x and %x", x, ahead, b, aheadBytes)
		}
		ahead, aheadBytes = x, b
	}
}

// spoil writes over all that x's lists have, and over the room behind them.
func spoil(x api.Command) {
	clear(x.Caveats[:cap(x.Caveats)])
	clear(x.Pieces[:cap(x.Pieces)])
}

// Rule R3: what is handed in is neither changed nor kept; what is answered is
// the caller's own.
func TestNothingShared(t *testing.T) {
	x := whole()
	x.Caveats, x.Pieces = append(make([]api.Caveat, 0, 20), x.Caveats...), append(make([]api.Piece, 0, 20), x.Pieces...)
	kept := copied(x)
	b, _ := command.Encode(x)
	again, _ := command.Encode(x)
	clear(b[:cap(b)])
	if string(again) != strings.Join(wholeCode(), "") {
		t.Errorf("Encode's bytes are shared: %x", again)
	}
	command.Check(x)
	command.Same(x, x)
	command.Deed(x, 5)
	if !alike(x, kept) || x.Caveats[:3][2] != (api.Caveat{}) || x.Pieces[:3][2] != (api.Piece{}) {
		t.Errorf("it was changed: %+v", x)
	}
	first, _ := command.Decode(again)
	second, _ := command.Decode(again)
	if string(again) != strings.Join(wholeCode(), "") {
		t.Errorf("Decode changed its bytes: %x", again)
	}
	clear(again[:cap(again)])
	spoil(first)
	if !alike(second, kept) {
		t.Errorf("what Decode answers is shared: %+v", second)
	}
}

// Rule R3: of Of, too.
func TestOfShared(t *testing.T) {
	r := request()
	x, y := command.Of(r), command.Of(r)
	spoil(x)
	if !slices.Equal(r.Token.Caveats, caveats(3)) || !slices.Equal(r.Pieces, pieces(1, 2)) {
		t.Errorf("the request has changed: %+v", r)
	}
	clear(r.Token.Caveats)
	clear(r.Pieces)
	if !slices.Equal(y.Caveats, caveats(3)) || !slices.Equal(y.Pieces, pieces(1, 2)) {
		t.Errorf("it is shared: %+v", y)
	}
}

// The chapter's example.
func TestExample(t *testing.T) {
	if n := command.Action(api.OpRestore); n != 16 {
		t.Error(n)
	}
}

// P23.1, P23.3: any bytes: what is taken may be, and has just those bytes.
func FuzzDecode(f *testing.F) {
	for _, g := range goods() {
		f.Add([]byte(g.b))
	}
	for at, parts := range wrongParts() {
		for part := range parts {
			code := wholeCode()
			code[at] = part
			f.Add([]byte(strings.Join(code, "")))
		}
	}
	f.Fuzz(func(t *testing.T, b []byte) {
		kept := bytes.Clone(b)
		x, e := command.Decode(b)
		if !bytes.Equal(b, kept) {
			t.Errorf("%x was changed to %x", kept, b)
		}
		if e != api.OK {
			if !none(x) || e != api.ErrShort && e != api.ErrForm && e != api.ErrLong {
				t.Errorf("%x: %+v beside %d", b, x, e)
			}
			return
		}
		if again, e := command.Encode(x); e != api.OK || !bytes.Equal(again, b) || command.Check(x) != api.OK {
			t.Errorf("%x: %+v, whose bytes are %x, %d", b, x, again, e)
		}
	})
}
