package msg

import (
	"bytes"
	"slices"

	"bailey/api"
	"bailey/pack"
	"bailey/record"
)

const (
	lastKind = api.MsGetReply
	lastNode = api.MaxNodes - 1
	maxConf  = 1<<api.MaxNodes - 1
	maxData  = api.MaxFrame / 2 // as much as a record's snapshot may have
	sumSize  = 32
)

// What a message has beside its kind, as bits.
const (
	hasHead = 1 << iota // From, To, Term
	hasIndex
	hasLogTerm
	hasCommit
	hasRound
	hasConf
	hasOK
	hasEntries
	hasData
	hasSum
)

// parts answers what a message of the kind has: the head alone, which all
// messages have, if there is no such kind.
func parts(kind int) int {
	switch kind {
	case api.MsPre, api.MsVote:
		return hasHead | hasIndex | hasLogTerm
	case api.MsPreReply, api.MsVoteReply:
		return hasHead | hasOK
	case api.MsAppend:
		return hasHead | hasIndex | hasLogTerm | hasCommit | hasRound | hasEntries
	case api.MsReply:
		return hasHead | hasIndex | hasRound | hasOK
	case api.MsSnap:
		return hasHead | hasIndex | hasLogTerm | hasRound | hasConf | hasData
	case api.MsPut:
		return hasHead | hasIndex | hasSum | hasData
	case api.MsPutReply:
		return hasHead | hasSum | hasOK
	case api.MsGet:
		return hasHead | hasRound | hasSum
	case api.MsGetReply:
		return hasHead | hasRound | hasSum | hasData | hasOK
	}
	return hasHead
}

// field is one field of a message, which those have that have its part.
type field struct {
	part int
	fits func(m *api.Msg) bool // within its limits
	same func(a, b *api.Msg) bool
	put  func(b []byte, m *api.Msg) []byte
	read func(r *pack.Reader, m *api.Msg)
}

// fields answers all fields behind the kind, in the order of their bytes.
func fields() []field {
	return []field{
		number(hasHead, lastNode, func(m *api.Msg) *int { return &m.From }),
		number(hasHead, lastNode, func(m *api.Msg) *int { return &m.To }),
		number(hasHead, api.MaxNum, func(m *api.Msg) *int { return &m.Term }),
		number(hasIndex, api.MaxNum, func(m *api.Msg) *int { return &m.Index }),
		number(hasLogTerm, api.MaxNum, func(m *api.Msg) *int { return &m.LogTerm }),
		number(hasCommit, api.MaxNum, func(m *api.Msg) *int { return &m.Commit }),
		number(hasRound, api.MaxNum, func(m *api.Msg) *int { return &m.Round }),
		number(hasConf, maxConf, func(m *api.Msg) *int { return &m.Conf }),
		yes(),
		entries(),
		data(),
		sum(),
	}
}

// number is a field that is a number up to most; at tells where it stands.
func number(part, most int, at func(m *api.Msg) *int) field {
	return field{
		part: part,
		fits: func(m *api.Msg) bool { return 0 <= *at(m) && *at(m) <= most },
		same: func(a, b *api.Msg) bool { return *at(a) == *at(b) },
		put:  func(b []byte, m *api.Msg) []byte { return pack.Num(b, *at(m)) },
		read: func(r *pack.Reader, m *api.Msg) { *at(m) = r.Num(most) },
	}
}

func yes() field {
	return field{
		part: hasOK,
		fits: func(*api.Msg) bool { return true },
		same: func(a, b *api.Msg) bool { return a.OK == b.OK },
		put:  func(b []byte, m *api.Msg) []byte { return pack.Yes(b, m.OK) },
		read: func(r *pack.Reader, m *api.Msg) { m.OK = r.Yes() },
	}
}

func entries() field {
	return field{
		part: hasEntries,
		fits: func(m *api.Msg) bool { return entriesFit(m.Entries) },
		same: func(a, b *api.Msg) bool { return slices.EqualFunc(a.Entries, b.Entries, record.SameEntry) },
		put:  func(b []byte, m *api.Msg) []byte { return putEntries(b, m.Entries) },
		read: func(r *pack.Reader, m *api.Msg) { m.Entries = readEntries(r) },
	}
}

func entriesFit(l []api.Entry) bool {
	if len(l) > api.MaxBatch {
		return false
	}
	for _, e := range l {
		if !record.Entry(e) {
			return false
		}
	}
	return true
}

func putEntries(b []byte, l []api.Entry) []byte {
	b = pack.Num(b, len(l))
	for _, e := range l {
		b = record.PutEntry(b, e)
	}
	return b
}

func readEntries(r *pack.Reader) []api.Entry {
	var l []api.Entry
	for range r.Num(api.MaxBatch) {
		l = append(l, record.ReadEntry(r))
	}
	return l
}

func data() field {
	return field{
		part: hasData,
		fits: func(m *api.Msg) bool { return len(m.Data) <= maxData },
		same: func(a, b *api.Msg) bool { return bytes.Equal(a.Data, b.Data) },
		put:  func(b []byte, m *api.Msg) []byte { return pack.Text(b, string(m.Data)) },
		read: func(r *pack.Reader, m *api.Msg) { m.Data = []byte(r.Text(maxData)) },
	}
}

func sum() field {
	return field{
		part: hasSum,
		fits: func(m *api.Msg) bool { return m.Sum == "" || len(m.Sum) == sumSize },
		same: func(a, b *api.Msg) bool { return a.Sum == b.Sum },
		put:  func(b []byte, m *api.Msg) []byte { return pack.Text(b, m.Sum) },
		read: func(r *pack.Reader, m *api.Msg) { m.Sum = r.Text(sumSize) },
	}
}
