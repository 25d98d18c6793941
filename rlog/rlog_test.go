package rlog_test

import (
	"bytes"
	"math"
	"math/rand"
	"slices"
	"testing"

	"bailey/api"
	"bailey/pack"
	"bailey/record"
	"bailey/rlog"
)

const (
	top      = api.MaxNum
	least    = math.MinInt
	greatest = math.MaxInt
)

// entry is a command's entry, whose term and data tell its number.
func entry(index int) api.Entry {
	return api.Entry{Index: index, Term: index % 7, Kind: api.EnCommand, Data: pack.Num([]byte("data"), index)}
}

// entries are those from first to last.
func entries(first, last int) []api.Entry {
	var l []api.Entry
	for index := first; index <= last; index++ {
		l = append(l, entry(index))
	}
	return l
}

// conf is an entry that says members.
func conf(index, members int) api.Entry {
	return api.Entry{Index: index, Term: 1, Kind: api.EnConf, Data: rlog.ConfData(members)}
}

// deep is l in new memory.
func deep(l []api.Entry) []api.Entry {
	l = slices.Clone(l)
	for i := range l {
		l[i].Data = slices.Clone(l[i].Data)
	}
	return l
}

// has looks whether the log has that base, and behind it just these entries.
func has(t *testing.T, what string, l *rlog.Log, base, term, members int, want ...api.Entry) {
	t.Helper()
	last, lastTerm := base, term
	for _, e := range want {
		last, lastTerm = e.Index, e.Term
	}
	if l.Base() != base || l.Last() != last || l.LastTerm() != lastTerm || l.Conf() != members {
		t.Errorf("%s: base %d, last %d, its term %d, conf %d; not %d, %d, %d, %d", what,
			l.Base(), l.Last(), l.LastTerm(), l.Conf(), base, last, lastTerm, members)
	}
	if n, e := l.Term(base); n != term || e != api.OK {
		t.Errorf("%s: the base's term %d, %d", what, n, e)
	}
	for _, w := range want {
		if n, e := l.Term(w.Index); n != w.Term || e != api.OK {
			t.Errorf("%s: the term of %d: %d, %d", what, w.Index, n, e)
		}
	}
	if base < greatest {
		if got := l.From(base+1, greatest); !slices.EqualFunc(got, want, record.SameEntry) {
			t.Errorf("%s: %+v, not %+v", what, got, want)
		}
	}
}

// P13.1: of the entries handed in the first ones, as long as each comes next.
func TestNew(t *testing.T) {
	has(t, "none", rlog.New(3, 1, 7, nil), 3, 1, 7)
	has(t, "none, empty", rlog.New(0, 0, 0, []api.Entry{}), 0, 0, 0)
	has(t, "one", rlog.New(0, 0, 1, entries(1, 1)), 0, 0, 1, entry(1))
	has(t, "more", rlog.New(3, 9, 127, entries(4, 30)), 3, 9, 127, entries(4, 30)...)
	for _, first := range []int{1, 2, 3, 5, 6, top} {
		has(t, "the first one is not next", rlog.New(3, 1, 7, []api.Entry{entry(first), entry(4), entry(5)}), 3, 1, 7)
	}
	for _, third := range []int{1, 3, 4, 5, 7, 8, top} {
		l := append(entries(4, 5), entry(third), entry(6), entry(7))
		has(t, "one in the middle is not next", rlog.New(3, 1, 7, l), 3, 1, 7, entries(4, 5)...)
	}
	has(t, "twice", rlog.New(3, 1, 7, append(entries(4, 5), entries(4, 6)...)), 3, 1, 7, entries(4, 5)...)
}

// wrong are entries of that number of which one thing may not be.
func wrong(index int) []api.Entry {
	var l []api.Entry
	for _, term := range []int{least, -1, top + 1, greatest} {
		l = append(l, api.Entry{Index: index, Term: term})
	}
	for _, kind := range []int{least, -1, 3, greatest} {
		l = append(l, api.Entry{Index: index, Kind: kind})
	}
	return append(l, api.Entry{Index: index, Data: make([]byte, api.MaxEntry+1)})
}

// P13.1: an entry that may not be, as the first one and in the middle.
func TestNewWrong(t *testing.T) {
	for _, e := range wrong(4) {
		has(t, "the first one may not be", rlog.New(3, 1, 7, []api.Entry{e, entry(4), entry(5)}), 3, 1, 7)
	}
	for _, e := range wrong(6) {
		l := append(entries(4, 5), e, entry(6), entry(7))
		has(t, "one in the middle may not be", rlog.New(3, 1, 7, l), 3, 1, 7, entries(4, 5)...)
	}
	big := api.Entry{Index: 4, Term: top, Kind: api.EnConf, Data: make([]byte, api.MaxEntry)}
	has(t, "just so", rlog.New(3, 1, 7, []api.Entry{big, entry(5)}), 3, 1, 7, big, entry(5))
}

// P13.1: whatever the base is; only behind 0 to MaxNum less one may an entry be.
func TestNewBase(t *testing.T) {
	for _, base := range []int{least, least + 1, -2, -1, top, top + 1, greatest - 1, greatest} {
		for _, n := range []int{least, -1, 0, 1, 128, greatest} {
			for _, e := range []api.Entry{{Index: 1}, {Index: top}, {Index: top + 1}, {Index: 0}, {Index: -1}, {Index: least}, {Index: greatest}} {
				l := rlog.New(base, n, n, []api.Entry{e})
				has(t, "base", l, base, n, n)
				if l.Append(e) == api.OK || l.Cut(base) != api.ErrLog || l.Compact(base) != api.OK {
					t.Errorf("base %d, entry %d", base, e.Index)
				}
				has(t, "base, worked on", l, base, n, n)
			}
		}
	}
	last := rlog.New(top-1, 2, 3, []api.Entry{{Index: top, Term: 5}, {Index: top + 1, Term: 6}})
	has(t, "the last number", last, top-1, 2, 3, api.Entry{Index: top, Term: 5})
	if e := last.Append(api.Entry{Index: top + 1}); e != api.ErrArg {
		t.Errorf("behind the last number: %d", e)
	}
}

// P13.1: a conf entry's data.
func TestConfData(t *testing.T) {
	for n, want := range map[int]string{0: "\x00", 1: "\x01", 7: "\x07", 127: "\x7f", 128: "\x81\x00", 300: "\x82\x2c", -1: "\x00", least: "\x00"} {
		if b := rlog.ConfData(n); string(b) != want {
			t.Errorf("ConfData(%d): %x, not %x", n, b, want)
		}
	}
	for n := range 128 {
		if got := rlog.ConfOf(rlog.ConfData(n)); got != n {
			t.Errorf("ConfOf(ConfData(%d)): %d", n, got)
		}
	}
}

// P13.1: data that are not just those of 1 to 127.
func TestConfOfWrong(t *testing.T) {
	for _, data := range []string{
		"", "\x00", "\x81\x00", "\x81\x01", "\xff\x7f", "\x80", "\x80\x01", "\x81", "\xff",
		"\x01\x00", "\x07\x07", "\x7f\x01", "\x00\x07", "\x81\x80\x80\x80\x80\x80\x80\x80\x80\x01",
	} {
		if got := rlog.ConfOf([]byte(data)); got != 0 {
			t.Errorf("ConfOf(%x): %d", data, got)
		}
	}
	if rlog.ConfOf(nil) != 0 || rlog.ConfOf([]byte{127}) != 127 || rlog.ConfOf([]byte{1}) != 1 || rlog.ConfOf(make([]byte, 1<<16)) != 0 {
		t.Error("ConfOf")
	}
	for _, n := range []int{128, 129, 255, 256, 1 << 20, greatest} {
		if got := rlog.ConfOf(rlog.ConfData(n)); got != 0 {
			t.Errorf("ConfOf of the data of %d: %d", n, got)
		}
	}
}

// P13.2: the term of the base, of the first and the last entry, and of none.
func TestTerm(t *testing.T) {
	l := rlog.New(3, 9, 7, []api.Entry{{Index: 4, Term: 10}, {Index: 5, Term: 10}, {Index: 6, Term: 12}})
	for index, term := range map[int]int{3: 9, 4: 10, 5: 10, 6: 12} {
		if got, e := l.Term(index); got != term || e != api.OK {
			t.Errorf("Term(%d): %d, %d", index, got, e)
		}
	}
	for _, index := range []int{least, -1, 0, 1, 2, 7, 8, top, greatest} {
		if got, e := l.Term(index); got != 0 || e != api.ErrNone {
			t.Errorf("Term(%d): %d, %d", index, got, e)
		}
	}
	empty := rlog.New(3, 9, 7, nil)
	if got, e := empty.Term(3); got != 9 || e != api.OK || empty.LastTerm() != 9 || empty.Last() != 3 {
		t.Errorf("without entries: %d, %d", got, e)
	}
	if got, e := empty.Term(4); got != 0 || e != api.ErrNone {
		t.Errorf("behind no entries: %d, %d", got, e)
	}
}

// P13.2: entries from some one on, at most so many.
func TestFrom(t *testing.T) {
	l := rlog.New(3, 1, 7, entries(4, 8))
	for index := -1; index <= 11; index++ {
		for _, most := range []int{least, -1, 0, 1, 2, 4, 5, 6, 100, greatest} {
			var want []api.Entry
			for at := index; index > 3 && at <= 8 && len(want) < most; at++ {
				want = append(want, entry(at))
			}
			if got := l.From(index, most); !slices.EqualFunc(got, want, record.SameEntry) {
				t.Errorf("From(%d, %d): %+v, not %+v", index, most, got, want)
			}
		}
	}
	for _, index := range []int{least, greatest, greatest - 1, top} {
		if got := l.From(index, greatest); len(got) != 0 {
			t.Errorf("From(%d): %+v", index, got)
		}
	}
	// What lies between the two is more than any number.
	if got := rlog.New(-5, 1, 7, nil).From(greatest, 1); len(got) != 0 {
		t.Errorf("behind a base below 0: %+v", got)
	}
	if got := rlog.New(3, 1, 7, nil).From(4, 9); len(got) != 0 {
		t.Errorf("of no entries: %+v", got)
	}
}

// P13.3: the next entry; one that may not be ahead of one that is not next.
func TestAppend(t *testing.T) {
	l := rlog.New(3, 1, 7, nil)
	for index := 4; index < 50; index++ {
		for _, other := range []int{1, index - 2, index - 1, index + 1, index + 2, top} {
			if e := l.Append(entry(other)); e != api.ErrLog {
				t.Fatalf("Append of %d behind %d: %d", other, index-1, e)
			}
		}
		for _, e := range append(wrong(index), wrong(index+1)...) {
			if e := l.Append(e); e != api.ErrArg {
				t.Fatalf("Append of what may not be: %d", e)
			}
		}
		for _, no := range []int{least, -1, 0, top + 1, greatest} {
			if e := l.Append(entry(no)); e != api.ErrArg {
				t.Fatalf("Append of %d: %d", no, e)
			}
		}
		if e := l.Append(entry(index)); e != api.OK {
			t.Fatalf("Append of %d: %d", index, e)
		}
		has(t, "appended", l, 3, 1, 7, entries(4, index)...)
	}
}

// P13.3: a cut at the base, above it, at the last entry and behind it.
func TestCut(t *testing.T) {
	for index, last := range map[int]int{4: 3, 5: 4, 6: 5, 8: 7, 9: 8, 10: 8, top: 8, greatest: 8} {
		l := rlog.New(3, 1, 7, entries(4, 8))
		if e := l.Cut(index); e != api.OK {
			t.Errorf("Cut(%d): %d", index, e)
		}
		has(t, "cut", l, 3, 1, 7, entries(4, last)...)
		if e := l.Append(entry(last + 1)); e != api.OK {
			t.Errorf("behind Cut(%d): %d", index, e)
		}
		has(t, "gone on", l, 3, 1, 7, entries(4, last+1)...)
	}
	for _, index := range []int{least, -1, 0, 1, 2, 3} {
		l := rlog.New(3, 1, 7, entries(4, 8))
		if e := l.Cut(index); e != api.ErrLog {
			t.Errorf("Cut(%d): %d", index, e)
		}
		has(t, "not cut", l, 3, 1, 7, entries(4, 8)...)
		if e := rlog.New(3, 1, 7, nil).Cut(index); e != api.ErrLog {
			t.Errorf("Cut(%d) of no entries: %d", index, e)
		}
	}
	low := rlog.New(least, 1, 7, nil)
	if low.Cut(greatest) != api.OK || low.Cut(least) != api.ErrLog {
		t.Error("Cut far above the base")
	}
	has(t, "far above", low, least, 1, 7)
}

// P13.3: a cut takes members with it.
func TestCutConf(t *testing.T) {
	l := rlog.New(3, 1, 7, []api.Entry{entry(4), conf(5, 15), entry(6), conf(7, 31)})
	for _, step := range [][2]int{{9, 31}, {8, 31}, {7, 15}, {6, 15}, {5, 7}, {4, 7}} {
		if e := l.Cut(step[0]); e != api.OK || l.Conf() != step[1] {
			t.Errorf("Cut(%d): %d, conf %d", step[0], e, l.Conf())
		}
	}
}

// mixed is a log with conf entries among others.
func mixed() ([]api.Entry, []int) {
	l := []api.Entry{entry(4), conf(5, 15), entry(6), conf(7, 31), entry(8)}
	return l, []int{7, 7, 15, 15, 31, 31} // the members at 3 to 8
}

// P13.3, P13.6: the base goes up to some entry; what is behind stays as it was.
func TestCompact(t *testing.T) {
	all, members := mixed()
	for index := 3; index <= 8; index++ {
		l := rlog.New(3, 1, 7, all)
		term, _ := l.Term(index)
		if e := l.Compact(index); e != api.OK {
			t.Fatalf("Compact(%d): %d", index, e)
		}
		has(t, "compacted", l, index, term, 31, all[index-3:]...)
		for at := -1; at <= 10; at++ {
			want := members[min(max(at, index), 8)-3]
			if got := l.ConfAt(at); got != want {
				t.Errorf("Compact(%d), ConfAt(%d): %d, not %d", index, at, got, want)
			}
		}
		if _, e := l.Term(index - 1); e != api.ErrNone {
			t.Errorf("Compact(%d): the term ahead: %d", index, e)
		}
		if l.Cut(index) != api.ErrLog || l.Append(entry(9)) != api.OK || l.Last() != 9 {
			t.Errorf("Compact(%d): it does not go on", index)
		}
	}
	for _, index := range []int{least, -1, 0, 2, 9, 10, top, greatest} {
		l := rlog.New(3, 1, 7, all)
		if e := l.Compact(index); e != api.ErrNone {
			t.Errorf("Compact(%d): %d", index, e)
		}
		has(t, "not compacted", l, 3, 1, 31, all...)
	}
}

// P13.3: step by step, and a compaction without entries.
func TestCompactAgain(t *testing.T) {
	all, members := mixed()
	l := rlog.New(3, 1, 7, all)
	for index := 4; index <= 8; index++ {
		if l.Compact(index) != api.OK || l.Compact(index) != api.OK || l.Compact(index-1) != api.ErrNone {
			t.Errorf("Compact(%d)", index)
		}
		has(t, "again", l, index, all[index-4].Term, 31, all[index-3:]...)
		if got := l.ConfAt(0); got != members[index-3] {
			t.Errorf("Compact(%d): the base's members %d", index, got)
		}
	}
	empty := rlog.New(3, 9, 5, nil)
	if empty.Compact(3) != api.OK || empty.Compact(4) != api.ErrNone {
		t.Error("Compact without entries")
	}
	has(t, "without entries", empty, 3, 9, 5)
}

// P13.3: all entries go, and all of the base is new.
func TestReset(t *testing.T) {
	all, _ := mixed()
	for _, base := range []int{least, -1, 0, 1, 3, 5, 8, 20, top, greatest} {
		l := rlog.New(3, 1, 7, all)
		l.Reset(base, 9, 63)
		has(t, "reset", l, base, 9, 63)
		for at := -1; at < 10; at++ {
			if l.ConfAt(at) != 63 {
				t.Errorf("Reset(%d): conf at %d: %d", base, at, l.ConfAt(at))
			}
		}
		if base >= 0 && base < top {
			if e := l.Append(entry(base + 1)); e != api.OK {
				t.Errorf("behind Reset(%d): %d", base, e)
			}
			has(t, "reset, gone on", l, base, 9, 63, entry(base+1))
		}
	}
}

// P13.4: the last conf entry up to some number that says members.
func TestConfAt(t *testing.T) {
	none := []string{"", "\x00", "\x81\x00", "\x07\x00", "\x80", "text"}
	l := []api.Entry{
		entry(4), conf(5, 15), entry(6), conf(7, 31), conf(8, 1),
		{Index: 9, Kind: api.EnConf}, // of no bytes
		{Index: 10, Kind: api.EnCommand, Data: rlog.ConfData(3)},
		{Index: 11, Kind: api.EnNothing, Data: rlog.ConfData(5)},
	}
	for _, data := range none {
		l = append(l, api.Entry{Index: 8 + len(l) - 4, Kind: api.EnConf, Data: []byte(data)})
	}
	end := l[len(l)-1].Index
	l = append(l, conf(end+1, 127))
	made := rlog.New(3, 1, 7, l)
	if made.Last() != end+1 {
		t.Fatalf("last %d", made.Last())
	}
	want := func(at int) int {
		switch {
		case at < 5:
			return 7
		case at < 7:
			return 15
		case at < 8:
			return 31
		case at <= end:
			return 1
		}
		return 127
	}
	for _, at := range []int{least, -1, 0, 1, 2, top, greatest} {
		if got := made.ConfAt(at); got != want(at) {
			t.Errorf("ConfAt(%d): %d", at, got)
		}
	}
	for at := 3; at < end+4; at++ {
		if got := made.ConfAt(at); got != want(at) {
			t.Errorf("ConfAt(%d): %d, not %d", at, got, want(at))
		}
	}
	if made.Conf() != 127 {
		t.Errorf("Conf: %d", made.Conf())
	}
}

// P13.4: where no entry says members, the base's count, whatever they are.
func TestConfOfBase(t *testing.T) {
	for _, members := range []int{least, -1, 0, 1, 127, 128, greatest} {
		l := rlog.New(3, 1, members, []api.Entry{entry(4), conf(5, 0), conf(6, 128), {Index: 7, Kind: api.EnConf}})
		if l.Last() != 7 || l.Conf() != members || l.ConfAt(5) != members || l.ConfAt(0) != members {
			t.Errorf("conf %d: %d", members, l.Conf())
		}
		if l.Compact(6) != api.OK || l.Conf() != members {
			t.Errorf("conf %d, compacted: %d", members, l.Conf())
		}
	}
}

// P13.4, rule R5: a log that no call made.
func TestNoLog(t *testing.T) {
	for _, l := range []*rlog.Log{nil, {}} {
		l.Reset(3, 1, 7)
		for _, index := range []int{least, -1, 0, 1, 3, greatest} {
			term, e := l.Term(index)
			if term != 0 || e != api.ErrNil {
				t.Errorf("Term(%d): %d, %d", index, term, e)
			}
			if len(l.From(index, 9)) != 0 || l.ConfAt(index) != 0 || l.Cut(index) != api.ErrNil || l.Compact(index) != api.ErrNil {
				t.Errorf("no log has something at %d", index)
			}
		}
		for _, e := range []api.Entry{{}, entry(1), entry(4)} {
			if err := l.Append(e); err != api.ErrNil {
				t.Errorf("Append: %d", err)
			}
		}
		if l.Base() != 0 || l.Last() != 0 || l.LastTerm() != 0 || l.Conf() != 0 {
			t.Error("no log has something")
		}
	}
}

// spoil writes over all entries and their bytes, and over the room behind them.
func spoil(l []api.Entry) {
	for i := range l {
		clear(l[i].Data[:cap(l[i].Data)])
	}
	clear(l[:cap(l)])
}

// Rule R3: what is handed in is not changed and not kept; what is answered is
// not shared, neither with the log nor within the answer.
func TestNothingShared(t *testing.T) {
	all, _ := mixed()
	want := deep(all)
	in := append(make([]api.Entry, 0, 20), deep(all)...)
	l := rlog.New(3, 1, 7, in)
	spoil(in)
	has(t, "New", l, 3, 1, 31, want...)
	one := conf(9, 63)
	if l.Append(one) != api.OK {
		t.Fatal("Append")
	}
	one.Data[0] = 1
	want = append(want, conf(9, 63))
	has(t, "Append", l, 3, 1, 63, want...)
	first, second := l.From(4, 9), l.From(4, 9)
	_ = append(first[0].Data, "????????"...)
	_ = append(first[:1], api.Entry{})
	spoil(first)
	if !slices.EqualFunc(second, want, record.SameEntry) {
		t.Errorf("two answers: %+v", second)
	}
	has(t, "From", l, 3, 1, 63, want...)
}

// Rule R3: what was answered stays when the log goes on.
func TestAnswersStay(t *testing.T) {
	l := rlog.New(3, 1, 7, entries(4, 8))
	got := l.From(4, 9)
	l.Compact(5)
	l.Cut(7)
	l.Append(api.Entry{Index: 7, Term: 9})
	l.Append(api.Entry{Index: 8, Term: 9})
	l.Reset(0, 0, 0)
	l.Append(entry(1))
	if !slices.EqualFunc(got, entries(4, 8), record.SameEntry) {
		t.Errorf("became %+v", got)
	}
	b := rlog.ConfData(7)
	clear(b)
	if !bytes.Equal(rlog.ConfData(7), []byte{7}) {
		t.Error("ConfData is shared")
	}
}

// The chapter's example.
func TestExample(t *testing.T) {
	l := rlog.New(3, 1, 7, entries(4, 5))
	if l.Last() != 5 || l.Cut(4) != api.OK || l.Last() != 3 || l.Cut(3) != api.ErrLog {
		t.Error("the example")
	}
}

// model is a log told in the plainest way.
type model struct {
	base, term, conf int
	l                []api.Entry
}

func (m *model) last() int { return m.base + len(m.l) }

func (m *model) confAt(index int) int {
	out := m.conf
	for _, e := range m.l {
		if e.Index <= index && e.Kind == api.EnConf && len(e.Data) == 1 && e.Data[0] >= 1 && e.Data[0] <= 127 {
			out = int(e.Data[0])
		}
	}
	return out
}

func (m *model) append(e api.Entry) api.Errno {
	if !record.Entry(e) {
		return api.ErrArg
	}
	if e.Index != m.last()+1 {
		return api.ErrLog
	}
	m.l = append(m.l, e)
	return api.OK
}

func (m *model) cut(index int) api.Errno {
	if index <= m.base {
		return api.ErrLog
	}
	m.l = m.l[:min(index-m.base-1, len(m.l))]
	return api.OK
}

func (m *model) compact(index int) api.Errno {
	if index < m.base || index > m.last() {
		return api.ErrNone
	}
	conf := m.confAt(index)
	if index > m.base {
		m.term = m.l[index-m.base-1].Term
	}
	m.l = m.l[index-m.base:]
	m.base, m.conf = index, conf
	return api.OK
}

// random is an entry near the log's end; now and then it may not be.
func random(r *rand.Rand, last int) api.Entry {
	e := api.Entry{Index: last + 1, Term: r.Intn(9) - r.Intn(2), Kind: r.Intn(3) + r.Intn(2)*r.Intn(2)}
	if r.Intn(4) == 0 {
		e.Index += r.Intn(5) - 2
	}
	e.Data = make([]byte, r.Intn(3))
	r.Read(e.Data)
	return e
}

// step does one thing to both, and looks whether they answer the same.
func (m *model) step(t *testing.T, l *rlog.Log, r *rand.Rand) {
	near := m.base + r.Intn(len(m.l)+5) - 2
	var got, want api.Errno
	switch r.Intn(10) {
	case 0:
		got, want = l.Cut(near), m.cut(near)
	case 1:
		got, want = l.Compact(near), m.compact(near)
	case 2:
		if r.Intn(9) == 0 {
			*m = model{base: near, term: r.Intn(9), conf: r.Intn(130)}
			l.Reset(m.base, m.term, m.conf)
		}
	default:
		e := random(r, m.last())
		got, want = l.Append(e), m.append(e)
	}
	if got != want {
		t.Fatalf("%d, not %d", got, want)
	}
}

// P13.5, P13.6: whatever is done, the log is what the plain model says; its
// numbers rise by one, and a compaction changes nothing that is left.
func TestAgainstModel(t *testing.T) {
	for seed := range 80 {
		r := rand.New(rand.NewSource(int64(seed)))
		m := &model{base: r.Intn(5), term: r.Intn(3), conf: r.Intn(128)}
		l := rlog.New(m.base, m.term, m.conf, nil)
		for range 300 {
			m.step(t, l, r)
			has(t, "model", l, m.base, m.term, m.confAt(m.last()), m.l...)
			for i, e := range l.From(m.base+1, greatest) {
				if e.Index != m.base+1+i {
					t.Fatalf("the entry %d behind %d has the number %d", i, m.base, e.Index)
				}
			}
			for at := m.base - 1; at <= m.last()+1; at++ {
				if l.ConfAt(at) != m.confAt(at) {
					t.Fatalf("conf at %d: %d, not %d", at, l.ConfAt(at), m.confAt(at))
				}
			}
			if t.Failed() {
				t.FailNow()
			}
		}
	}
}

// P13.6: a log that was compacted and one that was not go on alike.
func TestCompactGoesOn(t *testing.T) {
	for seed := range 40 {
		r := rand.New(rand.NewSource(int64(seed)))
		whole, short := rlog.New(0, 0, 7, nil), rlog.New(0, 0, 7, nil)
		for range 200 {
			e := random(r, whole.Last())
			if whole.Append(e) != short.Append(e) {
				t.Fatal("Append")
			}
			if r.Intn(20) == 0 {
				short.Compact(short.Base() + r.Intn(short.Last()-short.Base()+1))
			}
			at := short.Base() + r.Intn(short.Last()-short.Base()+2)
			if at > short.Base() && r.Intn(20) == 0 {
				whole.Cut(at)
				short.Cut(at)
			}
			if whole.Last() != short.Last() || whole.LastTerm() != short.LastTerm() || whole.Conf() != short.Conf() || whole.ConfAt(at) != short.ConfAt(at) {
				t.Fatal("a compacted log is another one")
			}
			if !slices.EqualFunc(short.From(short.Base()+1, 99), whole.From(short.Base()+1, 99), record.SameEntry) {
				t.Fatal("a compacted log has other entries")
			}
		}
	}
}

// P13.1: whatever data: what says members is just their data.
func FuzzConfOf(f *testing.F) {
	for _, data := range []string{"", "\x00", "\x01", "\x7f", "\x81\x00", "\x07\x00"} {
		f.Add([]byte(data))
	}
	f.Fuzz(func(t *testing.T, data []byte) {
		kept := slices.Clone(data)
		n := rlog.ConfOf(data)
		if !bytes.Equal(data, kept) {
			t.Errorf("%x was changed", kept)
		}
		if one := len(data) == 1 && data[0] > 0 && data[0] < 128; one != (n != 0) || one && !bytes.Equal(rlog.ConfData(n), data) {
			t.Errorf("%x: %d", data, n)
		}
	})
}
