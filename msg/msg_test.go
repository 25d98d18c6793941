package msg_test

import (
	"bytes"
	"fmt"
	"math"
	"math/rand"
	"slices"
	"strconv"
	"strings"
	"testing"

	"bailey/api"
	"bailey/msg"
	"bailey/record"
)

const (
	top      = api.MaxNum
	maxData  = 1 << 17
	least    = math.MinInt
	greatest = math.MaxInt
)

// top's bytes, and those of one more.
const (
	topBytes  = "\x88\x80\x80\x80\x00"
	overBytes = "\x88\x80\x80\x80\x01"
)

const sum = "0123456789abcdef0123456789abcde\xff" // 32 bytes

// some is n bytes, each unlike its neighbour.
func some(n int) []byte {
	b := make([]byte, n)
	for i := range b {
		b[i] = byte(i*7 + i>>8)
	}
	return b
}

// good is a message that may be, and its bytes.
type good struct {
	m api.Msg
	b string
}

// plain are one message of each kind, of which all fields that it has are not
// zero; in order of their kinds.
func plain() []good {
	two := []api.Entry{{Index: 5, Term: 3, Kind: api.EnCommand, Data: []byte("ab")}, {Index: 6, Term: 3}}
	return []good{
		{api.Msg{Kind: api.MsPre, From: 1, To: 2, Term: 3, Index: 300, LogTerm: 2}, "\x01\x01\x02\x03\x82\x2c\x02"},
		{api.Msg{Kind: api.MsPreReply, From: 5, To: 6, Term: 3, OK: true}, "\x02\x05\x06\x03\x01"},
		{api.Msg{Kind: api.MsVote, From: 2, To: 5, Term: 9, Index: 8, LogTerm: 300}, "\x03\x02\x05\x09\x08\x82\x2c"},
		{api.Msg{Kind: api.MsVoteReply, From: 6, To: 1, Term: 300, OK: true}, "\x04\x06\x01\x82\x2c\x01"},
		{api.Msg{Kind: api.MsAppend, From: 1, To: 2, Term: 3, Index: 4, LogTerm: 2, Commit: 1, Round: 7, Entries: two},
			"\x05\x01\x02\x03\x04\x02\x01\x07\x02\x05\x03\x01\x02ab\x06\x03\x00\x00"},
		{api.Msg{Kind: api.MsReply, From: 2, To: 1, Term: 3, Index: 6, Round: 7, OK: true}, "\x06\x02\x01\x03\x06\x07\x01"},
		{api.Msg{Kind: api.MsSnap, From: 1, To: 2, Term: 3, Index: 4, LogTerm: 2, Round: 9, Conf: 7, Data: []byte("snap")},
			"\x07\x01\x02\x03\x04\x02\x09\x07\x04snap"},
		{api.Msg{Kind: api.MsPut, From: 1, To: 2, Term: 3, Index: 5, Data: []byte("piece"), Sum: sum}, "\x08\x01\x02\x03\x05\x05piece\x20" + sum},
		{api.Msg{Kind: api.MsPutReply, From: 2, To: 1, Term: 3, OK: true, Sum: sum}, "\x09\x02\x01\x03\x01\x20" + sum},
		{api.Msg{Kind: api.MsGet, From: 1, To: 2, Term: 3, Round: 8, Sum: sum}, "\x0a\x01\x02\x03\x08\x20" + sum},
		{api.Msg{Kind: api.MsGetReply, From: 2, To: 1, Term: 3, Round: 8, OK: true, Data: []byte("piece"), Sum: sum},
			"\x0b\x02\x01\x03\x08\x01\x05piece\x20" + sum},
	}
}

// goods are messages that may be, at the edges of what may be.
func goods() []good {
	var eight []api.Entry
	var eightBytes strings.Builder
	for i := range api.MaxBatch {
		eight = append(eight, api.Entry{Index: i + 1, Term: i, Kind: i % 3, Data: []byte{byte(i)}})
		eightBytes.WriteString(string([]byte{byte(i + 1), byte(i), byte(i % 3), 1, byte(i)}))
	}
	most, long := some(api.MaxEntry), some(maxData)
	return append(plain(), []good{
		{api.Msg{Kind: api.MsPre, From: 1}, "\x01\x01\x00\x00\x00\x00"},
		{api.Msg{Kind: api.MsPreReply, To: 6}, "\x02\x00\x06\x00\x00"},
		{api.Msg{Kind: api.MsVote, From: 6, To: 5, Term: top, Index: top, LogTerm: top}, "\x03\x06\x05" + topBytes + topBytes + topBytes},
		{api.Msg{Kind: api.MsVoteReply, From: 1, Term: 3, OK: true}, "\x04\x01\x00\x03\x01"},
		{api.Msg{Kind: api.MsVoteReply, To: 1, Entries: []api.Entry{}, Data: []byte{}}, "\x04\x00\x01\x00\x00"},
		{api.Msg{Kind: api.MsAppend, To: 1}, "\x05\x00\x01\x00\x00\x00\x00\x00\x00"},
		{api.Msg{Kind: api.MsAppend, To: 1, Entries: []api.Entry{}}, "\x05\x00\x01\x00\x00\x00\x00\x00\x00"},
		{api.Msg{Kind: api.MsAppend, From: 3, To: 4, Term: top, Index: top, LogTerm: top, Commit: top, Round: top},
			"\x05\x03\x04" + topBytes + topBytes + topBytes + topBytes + topBytes + "\x00"},
		{api.Msg{Kind: api.MsAppend, To: 1, Entries: eight}, "\x05\x00\x01\x00\x00\x00\x00\x00\x08" + eightBytes.String()},
		{api.Msg{Kind: api.MsAppend, To: 1, Entries: []api.Entry{{Index: 9, Data: most}, {Index: top, Term: top, Kind: 2}, {Index: 1}}},
			"\x05\x00\x01\x00\x00\x00\x00\x00\x03\x09\x00\x00\xa0\x00" + string(most) + topBytes + topBytes + "\x02\x00\x01\x00\x00\x00"},
		{api.Msg{Kind: api.MsReply, To: 2, Index: top, Round: top}, "\x06\x00\x02\x00" + topBytes + topBytes + "\x00"},
		{api.Msg{Kind: api.MsSnap, To: 1}, "\x07\x00\x01\x00\x00\x00\x00\x00\x00"},
		{api.Msg{Kind: api.MsSnap, To: 1, Index: top, LogTerm: top, Round: top, Conf: 127, Data: long},
			"\x07\x00\x01\x00" + topBytes + topBytes + topBytes + "\x7f\x88\x80\x00" + string(long)},
		{api.Msg{Kind: api.MsPut, To: 1}, "\x08\x00\x01\x00\x00\x00\x00"},
		{api.Msg{Kind: api.MsPut, To: 1, Index: top, Data: long, Sum: sum}, "\x08\x00\x01\x00" + topBytes + "\x88\x80\x00" + string(long) + "\x20" + sum},
		{api.Msg{Kind: api.MsPutReply, To: 1}, "\x09\x00\x01\x00\x00\x00"},
		{api.Msg{Kind: api.MsGet, To: 1, Round: top}, "\x0a\x00\x01\x00" + topBytes + "\x00"},
		{api.Msg{Kind: api.MsGetReply, To: 1, Data: long[1:]}, "\x0b\x00\x01\x00\x00\x00\x87\xff\x7f" + string(long[1:]) + "\x00"},
		{api.Msg{Kind: api.MsGetReply, To: 1, Round: 1, Data: []byte{0}, Sum: strings.Repeat("\x00", 32)},
			"\x0b\x00\x01\x00\x01\x00\x01\x00\x20" + strings.Repeat("\x00", 32)},
	}...)
}

// wordsOf are, by kind, the names of what a message has beside From, To, Term.
func wordsOf(kind int) []string {
	return map[int][]string{
		api.MsPre:       {"Index", "LogTerm"},
		api.MsVote:      {"Index", "LogTerm"},
		api.MsPreReply:  {"OK"},
		api.MsVoteReply: {"OK"},
		api.MsAppend:    {"Index", "LogTerm", "Commit", "Round", "Entries"},
		api.MsReply:     {"Index", "Round", "OK"},
		api.MsSnap:      {"Index", "LogTerm", "Round", "Conf", "Data"},
		api.MsPut:       {"Index", "Sum", "Data"},
		api.MsPutReply:  {"Sum", "OK"},
		api.MsGet:       {"Round", "Sum"},
		api.MsGetReply:  {"Round", "Sum", "Data", "OK"},
	}[kind]
}

// numberOf are a message's numbers beside From and To, by name.
func numberOf() map[string]func(m *api.Msg) *int {
	return map[string]func(m *api.Msg) *int{
		"Term":    func(m *api.Msg) *int { return &m.Term },
		"Index":   func(m *api.Msg) *int { return &m.Index },
		"LogTerm": func(m *api.Msg) *int { return &m.LogTerm },
		"Commit":  func(m *api.Msg) *int { return &m.Commit },
		"Round":   func(m *api.Msg) *int { return &m.Round },
		"Conf":    func(m *api.Msg) *int { return &m.Conf },
	}
}

// listOf are what sets a field that is no number, by name; each of them to
// something that may be, in a message that has it.
func listOf() map[string]func(m *api.Msg) {
	return map[string]func(m *api.Msg){
		"OK":      func(m *api.Msg) { m.OK = true },
		"Entries": func(m *api.Msg) { m.Entries = []api.Entry{{Index: 1}} },
		"Data":    func(m *api.Msg) { m.Data = []byte{0} },
		"Sum":     func(m *api.Msg) { m.Sum = sum },
	}
}

// wrongs are messages of which just one thing may not be.
func wrongs() []api.Msg {
	l := []api.Msg{{}, {From: 1, To: 2}}
	for _, kind := range []int{least, -64, -1, 0, 12, 13, 63, 64, 65, 69, 261, greatest} {
		l = append(l, api.Msg{Kind: kind}, api.Msg{Kind: kind, From: 1, To: 2, Term: 3})
		for _, g := range plain() {
			g.m.Kind = kind
			l = append(l, g.m)
		}
	}
	for _, g := range plain() {
		l = append(l, wrongNodes(g.m)...)
		l = append(l, wrongNumbers(g.m)...)
		l = append(l, wrongLists(g.m)...)
	}
	return l
}

// wrongNodes are m with nodes that may not be: alike, below 0, above 6.
func wrongNodes(m api.Msg) []api.Msg {
	var l []api.Msg
	for _, n := range []int{least, -1, 7, 8, 127, greatest} {
		from, to, both := m, m, m
		from.From, to.To, both.From, both.To = n, n, n, n
		l = append(l, from, to, both)
	}
	for node := range api.MaxNodes {
		m.From, m.To = node, node
		l = append(l, m)
	}
	return l
}

// wrongNumbers are m with a number beyond its limits, or that its kind does not have.
func wrongNumbers(m api.Msg) []api.Msg {
	var l []api.Msg
	for name, at := range numberOf() {
		wrong := []int{least, -1, top + 1, greatest}
		if name == "Conf" {
			wrong = append(wrong, 128, 255, top)
		}
		if name != "Term" && !slices.Contains(wordsOf(m.Kind), name) {
			wrong = append(wrong, 1, 2, 7, 127, top)
		}
		for _, n := range wrong {
			one := m
			*at(&one) = n
			l = append(l, one)
		}
	}
	return l
}

// wrongLists are m with a text or a list beyond its limits, or that its kind
// does not have.
func wrongLists(m api.Msg) []api.Msg {
	var l []api.Msg
	for _, size := range []int{1, 31, 33, 64, 1000} {
		one := m
		one.Sum = string(some(size))
		l = append(l, one)
	}
	for _, size := range []int{maxData + 1, api.MaxFrame} {
		one := m
		one.Data = make([]byte, size)
		l = append(l, one)
	}
	fine := api.Entry{Index: 5, Term: 3, Kind: 1}
	for _, entries := range [][]api.Entry{
		slices.Repeat([]api.Entry{fine}, 9),
		slices.Repeat([]api.Entry{fine}, 300),
		{{}}, {fine, {}}, {{}, fine}, {fine, fine, fine, fine, fine, fine, fine, {}},
		{{Index: -1}}, {{Index: top + 1}}, {{Index: 1, Term: -1}}, {{Index: 1, Term: top + 1}},
		{{Index: 1, Kind: -1}}, {{Index: 1, Kind: 3}}, {{Index: 1, Data: make([]byte, api.MaxEntry+1)}},
	} {
		one := m
		one.Entries = entries
		l = append(l, one)
	}
	for name, set := range listOf() {
		if !slices.Contains(wordsOf(m.Kind), name) {
			one := m
			set(&one)
			l = append(l, one)
		}
	}
	return l
}

// line is m told in a line.
func line(m api.Msg) string {
	m.Data = m.Data[:min(len(m.Data), 9)]
	m.Sum = strconv.Quote(m.Sum[:min(len(m.Sum), 40)])
	m.Entries = m.Entries[:min(len(m.Entries), 2)]
	for _, e := range m.Entries {
		if len(e.Data) > 9 {
			m.Entries = nil
			break
		}
	}
	return fmt.Sprintf("%+v", m)
}

// none tells whether m is the zero message.
func none(m api.Msg) bool {
	return m.Kind == 0 && m.From == 0 && m.To == 0 && m.Term == 0 && m.Index == 0 && m.LogTerm == 0 &&
		m.Commit == 0 && m.Round == 0 && m.Conf == 0 && !m.OK && len(m.Entries) == 0 && len(m.Data) == 0 && m.Sum == ""
}

// alike is Same, told in the plainest way.
func alike(a, b api.Msg) bool {
	if len(a.Entries) != len(b.Entries) {
		return false
	}
	for i, e := range a.Entries {
		o := b.Entries[i]
		if e.Index != o.Index || e.Term != o.Term || e.Kind != o.Kind || string(e.Data) != string(o.Data) {
			return false
		}
	}
	return a.Kind == b.Kind && a.From == b.From && a.To == b.To && a.Term == b.Term &&
		a.Index == b.Index && a.LogTerm == b.LogTerm && a.Commit == b.Commit && a.Round == b.Round && a.Conf == b.Conf &&
		a.OK == b.OK && string(a.Data) == string(b.Data) && a.Sum == b.Sum
}

// deep is m in memory of its own.
func deep(m api.Msg) api.Msg {
	m.Data = slices.Clone(m.Data)
	m.Entries = slices.Clone(m.Entries)
	for i := range m.Entries {
		m.Entries[i].Data = slices.Clone(m.Entries[i].Data)
	}
	return m
}

// P16.1: which messages may be, of each kind, at the edges of what may be.
func TestCheck(t *testing.T) {
	for i, g := range plain() {
		if g.m.Kind != i+1 {
			t.Errorf("message %d has the kind %d", i, g.m.Kind)
		}
	}
	for _, g := range goods() {
		if e := msg.Check(g.m); e != api.OK {
			t.Errorf("%s: %d", line(g.m), e)
		}
	}
	for _, m := range wrongs() {
		if e := msg.Check(m); e != api.ErrArg {
			t.Errorf("%s: %d", line(m), e)
		}
	}
}

// P16.1: each number that a kind has, from 0 to its limit; each field that it
// has, beside all others at zero; with nothing but From and To.
func TestCheckEachField(t *testing.T) {
	for _, g := range plain() {
		has := wordsOf(g.m.Kind)
		bare := api.Msg{Kind: g.m.Kind, From: 2, To: 3}
		if e := msg.Check(bare); e != api.OK {
			t.Errorf("%s: %d", line(bare), e)
		}
		for name, at := range numberOf() {
			if name != "Term" && !slices.Contains(has, name) {
				continue
			}
			limit := top
			if name == "Conf" {
				limit = 127
			}
			for _, n := range []int{0, 1, limit - 1, limit} {
				one, alone := g.m, bare
				*at(&one), *at(&alone) = n, n
				if msg.Check(one) != api.OK || msg.Check(alone) != api.OK {
					t.Errorf("kind %d, %s of %d: %d, %d", g.m.Kind, name, n, msg.Check(one), msg.Check(alone))
				}
			}
		}
		for name, set := range listOf() {
			alone := bare
			set(&alone)
			want := api.ErrArg
			if slices.Contains(has, name) {
				want = api.OK
			}
			if e := msg.Check(alone); e != want {
				t.Errorf("kind %d, %s: %d", g.m.Kind, name, e)
			}
		}
	}
}

// P16.1: From and To are two of 0 to 6.
func TestCheckNodes(t *testing.T) {
	for _, g := range plain() {
		for from := -1; from <= 8; from++ {
			for to := -1; to <= 8; to++ {
				want := api.ErrArg
				if from >= 0 && from <= 6 && to >= 0 && to <= 6 && from != to {
					want = api.OK
				}
				g.m.From, g.m.To = from, to
				if e := msg.Check(g.m); e != want {
					t.Errorf("kind %d from %d to %d: %d", g.m.Kind, from, to, e)
				}
			}
		}
	}
}

// P16.1: nil lists and empty ones are the same, in fields that a kind has not, too.
func TestCheckEmpty(t *testing.T) {
	for kind := api.MsPre; kind <= api.MsGetReply; kind++ {
		m := api.Msg{Kind: kind, From: 4, To: 0, Entries: []api.Entry{}, Data: []byte{}}
		bare := api.Msg{Kind: kind, From: 4, To: 0}
		b, e := msg.Encode(m)
		c, f := msg.Encode(bare)
		if e != api.OK || f != api.OK || !bytes.Equal(b, c) || !msg.Same(m, bare) {
			t.Errorf("kind %d: %x, %d, and %x, %d", kind, b, e, c, f)
		}
	}
}

// P16.2: a message's bytes; none of one that may not be.
func TestEncode(t *testing.T) {
	for _, g := range goods() {
		if b, e := msg.Encode(g.m); string(b) != g.b || e != api.OK {
			t.Errorf("%s: %x, %d", line(g.m), b[:min(len(b), 30)], e)
		}
	}
	for _, m := range wrongs() {
		if b, e := msg.Encode(m); b != nil || e != api.ErrArg {
			t.Errorf("%s: %d bytes, %d", line(m), len(b), e)
		}
	}
}

// P16.2, P16.3: a message's bytes are read as the message.
func TestDecode(t *testing.T) {
	for _, g := range goods() {
		if m, e := msg.Decode([]byte(g.b)); !alike(m, g.m) || e != api.OK {
			t.Errorf("%s: %s, %d", line(g.m), line(m), e)
		}
	}
}

// P16.2: bytes that end too early, at each place.
func TestDecodeShort(t *testing.T) {
	for _, g := range goods() {
		for end := range g.b {
			// Of a long one each place of its fields, and some of its texts.
			if end > 60 && end < len(g.b)-60 && end%4001 != 0 {
				continue
			}
			if m, e := msg.Decode([]byte(g.b[:end])); !none(m) || e != api.ErrShort {
				t.Errorf("the first %d bytes of %s: %s, %d", end, line(g.m), line(m), e)
			}
		}
	}
	if m, e := msg.Decode(nil); !none(m) || e != api.ErrShort {
		t.Errorf("of nothing: %s, %d", line(m), e)
	}
}

// P16.2: bytes behind a message.
func TestDecodeMore(t *testing.T) {
	for _, g := range goods() {
		for _, behind := range []string{"\x00", "\x01", "\x80", "\xff", "more", g.b} {
			if m, e := msg.Decode([]byte(g.b + behind)); !none(m) || e != api.ErrForm {
				t.Errorf("%s and %d bytes: %s, %d", line(g.m), len(behind), line(m), e)
			}
		}
	}
}

// wrongBytes are bytes that no message are, and the first error of them.
func wrongBytes() map[string]api.Errno {
	nine := strings.Repeat("\xff", 9)
	l := map[string]api.Errno{
		// A kind that is none: told behind the reader's errors of From, To, Term.
		"\x00\x01\x02\x03":             api.ErrForm,
		"\x00\x01\x02\x03\x01":         api.ErrForm,
		"\x00\x01\x01\x03":             api.ErrForm,
		"\x00\x01\x02\x03" + overBytes: api.ErrForm,
		// The kind, ahead of all that stands behind it.
		"\x0c":                             api.ErrLong,
		"\x0c\x01\x02\x03":                 api.ErrLong,
		"\x81\x00\x01\x02":                 api.ErrLong,
		"\x80\x01\x01\x02\x03":             api.ErrForm,
		nine:                               api.ErrForm,
		"\x81":                             api.ErrShort,
		"\x0a\x01\x02\x03" + "\x80\x08":    api.ErrForm,
		"\x0a\x01\x02\x03" + nine:          api.ErrForm,
		"\x05\x01\x02\x03" + overBytes:     api.ErrLong,
		"\x05\x01\x02\x03\x80\x01":         api.ErrForm,
		"\x05\x01\x02\x03\x00" + overBytes: api.ErrLong,
		// Commit, Round, how many entries.
		"\x05\x01\x02\x03\x00\x00" + overBytes:     api.ErrLong,
		"\x05\x01\x02\x03\x00\x00\x00" + overBytes: api.ErrLong,
		"\x05\x01\x02\x03\x00\x00\x00\x00\x09":     api.ErrLong,
		"\x05\x01\x02\x03\x00\x00\x00\x00\x81\x00": api.ErrLong,
		"\x05\x01\x02\x03\x00\x00\x00\x00\x80\x01": api.ErrForm,
		"\x05\x01\x02\x03\x00\x00\x00\x00" + nine:  api.ErrForm,
		"\x05\x01\x02\x03\x00\x00\x00\x00\x08":     api.ErrShort,
		// An entry: its own errors, ahead of what stands behind it.
		"\x05\x01\x02\x03\x00\x00\x00\x00\x01\x00\x00\x00\x00":              api.ErrForm,
		"\x05\x01\x02\x03\x00\x00\x00\x00\x02\x00\x00\x00\x00":              api.ErrForm,
		"\x05\x01\x02\x03\x00\x00\x00\x00\x01" + overBytes + "\x00\x00\x00": api.ErrLong,
		"\x05\x01\x02\x03\x00\x00\x00\x00\x01\x01" + overBytes:              api.ErrLong,
		"\x05\x01\x02\x03\x00\x00\x00\x00\x01\x01\x00\x03\x00":              api.ErrLong,
		"\x05\x01\x02\x03\x00\x00\x00\x00\x01\x01\x00\x00\xa0\x01":          api.ErrLong,
		"\x05\x01\x02\x03\x00\x00\x00\x00\x01\x01\x00\x00\x80\x01":          api.ErrForm,
		"\x05\x01\x02\x03\x00\x00\x00\x00\x02\x01\x00\x00\x00":              api.ErrShort,
		// Conf, Data.
		"\x07\x01\x02\x03\x00\x00\x00\x81\x00\x00":                               api.ErrLong,
		"\x07\x01\x02\x03\x00\x00\x00\x80\x7f\x00":                               api.ErrForm,
		"\x07\x01\x02\x03\x00\x00\x00\x00\x88\x80\x01":                           api.ErrLong,
		"\x07\x01\x02\x03\x00\x00\x00\x00\x88\x80\x01" + string(some(1+maxData)): api.ErrLong,
		"\x07\x01\x02\x03\x00\x00\x00\x00\x88\x80\x00" + string(some(maxData-1)): api.ErrShort,
		"\x07\x01\x02\x03\x00\x00\x00\x00\x80\x01a":                              api.ErrForm,
		"\x07\x01\x02\x03\x00\x00\x00\x00\x02a":                                  api.ErrShort,
		// Yes or no, the sum.
		"\x04\x01\x02\x03\x02":                            api.ErrForm,
		"\x04\x01\x02\x03\xff":                            api.ErrForm,
		"\x09\x01\x02\x03\x02\x21":                        api.ErrForm,
		"\x09\x01\x02\x03\x01\x21":                        api.ErrLong,
		"\x09\x01\x02\x03\x01\x21" + string(some(33)):     api.ErrLong,
		"\x09\x01\x02\x03\x01\x1f" + string(some(31)):     api.ErrForm,
		"\x09\x01\x02\x03\x01\x1f" + string(some(30)):     api.ErrShort,
		"\x09\x01\x02\x03\x01\x01a":                       api.ErrForm,
		"\x09\x01\x02\x03\x01\x20" + string(some(31)):     api.ErrShort,
		"\x09\x01\x02\x03\x01\x80\x20" + string(some(32)): api.ErrForm,
		"\x0a\x01\x02\x03\x00\x21":                        api.ErrLong,
		"\x08\x01\x02\x03\x00\x00\x1f" + string(some(31)): api.ErrForm,
	}
	// All bytes have From, To and Term, those of a Kind 0 too.
	for kind := byte(0); kind <= api.MsGetReply; kind++ {
		head := string([]byte{kind})
		l[head] = api.ErrShort
		l[head+"\x01"] = api.ErrShort
		l[head+"\x01\x00"] = api.ErrShort
		l[head+"\x01\x00\x81"] = api.ErrShort
		l[head+"\x07\x00\x03"] = api.ErrLong
		l[head+"\x01\x07\x03"] = api.ErrLong
		l[head+"\x07"] = api.ErrLong
		l[head+"\x81\x00"] = api.ErrLong
		l[head+"\x80\x01"] = api.ErrForm
		l[head+"\x06\x07"] = api.ErrLong
		l[head+"\x07\x80"] = api.ErrLong
		l[head+"\x06\x80"] = api.ErrForm
		l[head+"\x00\x01"+overBytes] = api.ErrLong
		l[head+"\x00\x01\x80\x03"] = api.ErrForm
		l[head+"\x00\x01"+nine] = api.ErrForm
		// To whom it comes from: told behind the reader's errors.
		l[head+"\x01\x01"] = api.ErrShort
		l[head+"\x01\x01"+overBytes] = api.ErrLong
	}
	return l
}

// P16.2, rule R7: the first error of bytes that no message are, from left to
// right, each field with its limit; that it may not be is told behind these.
func TestDecodeWrong(t *testing.T) {
	for b, want := range wrongBytes() {
		if m, e := msg.Decode([]byte(b)); !none(m) || e != want {
			t.Errorf("of %x: %s, %d, not %d", b[:min(len(b), 20)], line(m), e, want)
		}
	}
}

// P16.2: whole bytes of a message whose kind, nodes or sum may not be.
func TestDecodeMayNotBe(t *testing.T) {
	for _, g := range goods() {
		b := []byte(g.b)
		b[0] = 0
		if m, e := msg.Decode(b); !none(m) || e != api.ErrForm {
			t.Errorf("kind 0 of %s: %s, %d", line(g.m), line(m), e)
		}
		b[0] = 12
		if m, e := msg.Decode(b); !none(m) || e != api.ErrLong {
			t.Errorf("kind 12 of %s: %s, %d", line(g.m), line(m), e)
		}
		for node := range byte(api.MaxNodes) {
			copy(b, g.b)
			b[1], b[2] = node, node
			if m, e := msg.Decode(b); !none(m) || e != api.ErrForm {
				t.Errorf("from and to %d: %s, %d", node, line(m), e)
			}
		}
	}
	for _, size := range []int{1, 2, 16, 31} {
		b := "\x0a\x01\x02\x03\x08" + string([]byte{byte(size)}) + string(some(size))
		if m, e := msg.Decode([]byte(b)); !none(m) || e != api.ErrForm {
			t.Errorf("a sum of %d bytes: %s, %d", size, line(m), e)
		}
	}
}

// P16.2: field by field, of messages that may not be, too.
func TestSame(t *testing.T) {
	whole := func() api.Msg {
		return api.Msg{Kind: 1, From: 2, To: 3, Term: 4, Index: 5, LogTerm: 6, Commit: 7, Round: 8, Conf: 9, OK: true,
			Entries: []api.Entry{{Index: 1, Term: 2, Kind: 1, Data: []byte("ab")}, {Index: 2}}, Data: []byte("cd"), Sum: "ef"}
	}
	if !msg.Same(whole(), whole()) || !msg.Same(api.Msg{}, api.Msg{}) || !msg.Same(api.Msg{Kind: -1, Round: least}, api.Msg{Kind: -1, Round: least}) {
		t.Error("the same are not")
	}
	if !msg.Same(api.Msg{}, api.Msg{Entries: []api.Entry{}, Data: []byte{}}) {
		t.Error("nil lists and empty ones are not the same")
	}
	changes := []func(m *api.Msg){
		func(m *api.Msg) { m.Kind++ },
		func(m *api.Msg) { m.From++ },
		func(m *api.Msg) { m.To-- },
		func(m *api.Msg) { m.From, m.To = m.To, m.From },
		func(m *api.Msg) { m.Index, m.LogTerm = m.LogTerm, m.Index },
		func(m *api.Msg) { m.OK = false },
		func(m *api.Msg) { m.Entries = nil },
		func(m *api.Msg) { m.Entries = m.Entries[:1] },
		func(m *api.Msg) { m.Entries = append(m.Entries, api.Entry{}) },
		func(m *api.Msg) { m.Entries[0].Index-- },
		func(m *api.Msg) { m.Entries[0].Term++ },
		func(m *api.Msg) { m.Entries[1].Kind++ },
		func(m *api.Msg) { m.Entries[0].Data[1]++ },
		func(m *api.Msg) { m.Entries[1].Data = []byte{0} },
		func(m *api.Msg) { m.Entries[0], m.Entries[1] = m.Entries[1], m.Entries[0] },
		func(m *api.Msg) { m.Data = nil },
		func(m *api.Msg) { m.Data = m.Data[:1] },
		func(m *api.Msg) { m.Data = append(m.Data, 0) },
		func(m *api.Msg) { m.Data[0]-- },
		func(m *api.Msg) { m.Sum = "" },
		func(m *api.Msg) { m.Sum = "e" },
		func(m *api.Msg) { m.Sum = "eg" },
		func(m *api.Msg) { m.Data, m.Sum = []byte(m.Sum), string(m.Data) },
	}
	for _, at := range numberOf() {
		changes = append(changes, func(m *api.Msg) { *at(m)++ }, func(m *api.Msg) { *at(m) = 0 }, func(m *api.Msg) { *at(m) = -*at(m) })
	}
	for i, change := range changes {
		m := whole()
		change(&m)
		if msg.Same(whole(), m) || msg.Same(m, whole()) {
			t.Errorf("change %d: the same", i)
		}
		if msg.SameAll([]api.Msg{{}, whole()}, []api.Msg{{}, m}) || msg.SameAll([]api.Msg{m, {}}, []api.Msg{whole(), {}}) {
			t.Errorf("change %d: all the same", i)
		}
	}
}

// P16.2: of lists as many, each the same, in order; nil and empty are alike.
func TestSameAll(t *testing.T) {
	all := func() []api.Msg {
		var l []api.Msg
		for _, g := range plain() {
			l = append(l, g.m)
		}
		return l
	}
	if !msg.SameAll(all(), all()) || !msg.SameAll(nil, nil) || !msg.SameAll(nil, []api.Msg{}) || !msg.SameAll([]api.Msg{{}}, []api.Msg{{Data: []byte{}}}) {
		t.Error("the same are not")
	}
	turned := all()
	turned[0], turned[1] = turned[1], turned[0]
	for i, l := range [][]api.Msg{nil, all()[1:], all()[:10], append(all(), api.Msg{}), append([]api.Msg{{}}, all()...), turned} {
		if msg.SameAll(all(), l) || msg.SameAll(l, all()) {
			t.Errorf("list %d is the same", i)
		}
	}
	if msg.SameAll(nil, []api.Msg{{}}) || msg.SameAll([]api.Msg{{}}, nil) {
		t.Error("none and a zero one are the same")
	}
}

// random is a message of any kind, each of its fields any; now and then it may
// not be.
func random(r *rand.Rand) api.Msg {
	m := api.Msg{Kind: 1 + r.Intn(11), From: r.Intn(7), To: r.Intn(7)}
	for _, name := range append([]string{"Term"}, wordsOf(m.Kind)...) {
		if at := numberOf()[name]; at != nil {
			*at(&m) = r.Intn(1 << r.Intn(8))
			if r.Intn(4) == 0 && name != "Conf" {
				*at(&m) = r.Intn(top + 1)
			}
			continue
		}
		switch name {
		case "OK":
			m.OK = r.Intn(2) == 0
		case "Data":
			m.Data = some(r.Intn(400))
		case "Sum":
			m.Sum = string(some(32 * r.Intn(2)))
		case "Entries":
			for range r.Intn(9) {
				m.Entries = append(m.Entries, api.Entry{Index: 1 + r.Intn(300), Term: r.Intn(300), Kind: r.Intn(3), Data: some(r.Intn(9))})
			}
		}
	}
	return m
}

// P16.3: Decode of Encode is the message, of messages of all kinds; two have
// the same bytes just if they are the same.
func TestThereAndBack(t *testing.T) {
	r := rand.New(rand.NewSource(16))
	taken := map[int]int{}
	var ahead api.Msg
	var aheadBytes []byte
	for range 8000 {
		m := random(r)
		b, e := msg.Encode(m)
		if m.From == m.To {
			if e != api.ErrArg {
				t.Fatalf("%s: %d", line(m), e)
			}
			continue
		}
		back, f := msg.Decode(b)
		if e != api.OK || f != api.OK || !alike(back, m) || !msg.Same(back, m) {
			t.Fatalf("%s: %d; %s, %d", line(m), e, line(back), f)
		}
		if alike(m, ahead) != bytes.Equal(b, aheadBytes) || alike(m, ahead) != msg.Same(m, ahead) {
			t.Fatalf("%s and %s: %x and %x", line(m), line(ahead), b, aheadBytes)
		}
		ahead, aheadBytes = m, b
		taken[m.Kind]++
	}
	for kind := api.MsPre; kind <= api.MsGetReply; kind++ {
		if taken[kind] < 300 {
			t.Errorf("kind %d came %d times", kind, taken[kind])
		}
	}
}

// Rule R3: what is handed in is neither changed nor kept; what is answered is
// the caller's own.
func TestNothingShared(t *testing.T) {
	for _, g := range goods() {
		m, kept := deep(g.m), deep(g.m)
		b, _ := msg.Encode(m)
		again, _ := msg.Encode(m)
		clear(b[:cap(b)])
		if !alike(m, kept) || string(again) != g.b {
			t.Errorf("%s: Encode's bytes are shared", line(kept))
		}
		first, _ := msg.Decode(again)
		second, _ := msg.Decode(again)
		if string(again) != g.b {
			t.Errorf("%s: Decode changed its bytes", line(kept))
		}
		clear(again[:cap(again)])
		spoil(&first)
		if !alike(second, kept) {
			t.Errorf("%s: what Decode answers is shared", line(kept))
		}
		msg.Check(m)
		msg.Same(m, second)
		msg.SameAll([]api.Msg{m}, []api.Msg{second})
		if !alike(m, kept) || !alike(second, kept) {
			t.Errorf("%s: it was changed", line(kept))
		}
	}
}

// spoil writes over all bytes and entries of m, and over the room behind them.
func spoil(m *api.Msg) {
	for i := range m.Entries {
		clear(m.Entries[i].Data[:cap(m.Entries[i].Data)])
	}
	clear(m.Entries[:cap(m.Entries)])
	clear(m.Data[:cap(m.Data)])
}

// Rule R3: of one answer no two lists share any memory.
func TestListsApart(t *testing.T) {
	for _, g := range goods() {
		for i := range g.m.Entries {
			m, _ := msg.Decode([]byte(g.b))
			data := m.Entries[i].Data
			clear(data[:cap(data)])
			for j, e := range m.Entries {
				if j != i && !record.SameEntry(e, g.m.Entries[j]) {
					t.Errorf("entries %d and %d share", i, j)
				}
			}
		}
	}
}

// The chapter's example.
func TestExample(t *testing.T) {
	m := api.Msg{Kind: api.MsVoteReply, From: 1, To: 0, Term: 3, OK: true}
	if b, e := msg.Encode(m); string(b) != "\x04\x01\x00\x03\x01" || e != api.OK {
		t.Errorf("%x, %d", b, e)
	}
}

// P16.2, P16.3: any bytes: what is taken may be, and has just those bytes.
func FuzzDecode(f *testing.F) {
	for _, g := range goods() {
		f.Add([]byte(g.b[:min(len(g.b), 300)]))
	}
	for b := range wrongBytes() {
		f.Add([]byte(b[:min(len(b), 300)]))
	}
	f.Fuzz(func(t *testing.T, b []byte) {
		kept := slices.Clone(b)
		m, e := msg.Decode(b)
		if !bytes.Equal(b, kept) {
			t.Errorf("%x was changed to %x", kept, b)
		}
		if e != api.OK {
			if !none(m) || e != api.ErrShort && e != api.ErrForm && e != api.ErrLong {
				t.Errorf("%x: %s beside %d", b, line(m), e)
			}
			return
		}
		if again, e := msg.Encode(m); e != api.OK || !bytes.Equal(again, b) || msg.Check(m) != api.OK {
			t.Errorf("%x: %s, whose bytes are %x, %d", b, line(m), again, e)
		}
	})
}
