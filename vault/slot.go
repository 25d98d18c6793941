package vault

import (
	"iter"
	"slices"

	"bailey/api"
	"bailey/frame"
	"bailey/pack"
	"bailey/record"
)

// lastGeneration is the greatest generation of a slot.
const lastGeneration = api.MaxNum

// leastHead is how many records each head has: those of the base and the vote.
const leastHead = 2

// content is what stands in a slot: what the good records say, and how many
// bytes they and the first frame have; generation 0 of what is no slot's bytes.
type content struct {
	generation, size int
	saved            api.Saved
}

// look answers what stands in a slot of those bytes, if it is whole and all
// records of its head are good.
func look(b []byte) content {
	first, size, e := frame.Next(b)
	if e != api.OK {
		return content{}
	}
	generation, head := numbers(first)
	if generation == 0 {
		return content{}
	}
	var p replay
	good := 0
	for r, n := range records(b[size:]) {
		if p.take(r) != api.OK {
			break
		}
		size += n
		good++
	}
	if good < head {
		return content{}
	}
	return content{generation: generation, size: size, saved: p.whole()}
}

// replay is a state that records make, one behind the other. Apply copies all
// that it is given: the entries with which the state begins stand apart, so
// that a slot full of entries is not copied again for each of them.
type replay struct {
	ahead []api.Entry
	saved api.Saved
}

// take applies r: without the entries ahead, unless some of them may go by it.
func (p *replay) take(r api.Record) api.Errno {
	if r.Kind == api.RcBase || r.Kind == api.RcCut {
		p.saved, p.ahead = p.whole(), nil
	}
	next, e := record.Apply(p.saved, r)
	if e != api.OK {
		return e
	}
	if n := len(next.Entries) - 1; n > 0 {
		p.ahead = append(p.ahead, next.Entries[:n]...)
		next.Entries = next.Entries[n:]
	}
	p.saved = next
	return api.OK
}

// whole is all that the records say.
func (p *replay) whole() api.Saved {
	s := p.saved
	s.Entries = slices.Concat(p.ahead, s.Entries)
	return s
}

// numbers are the generation and how many records are the head, of a slot's
// first frame; zero of a frame that says no such two.
func numbers(b []byte) (generation, head int) {
	r := pack.Open(b)
	generation, head = r.Num(lastGeneration), r.Num(api.MaxNum)
	if r.End() != api.OK || generation == 0 || head < leastHead {
		return 0, 0
	}
	return generation, head
}

// records goes through the records with whose frames b begins, and how many
// bytes each of these frames has, up to the first frame that is no record.
func records(b []byte) iter.Seq2[api.Record, int] {
	return func(yield func(api.Record, int) bool) {
		for {
			held, size, e := frame.Next(b)
			if e != api.OK {
				return
			}
			r, e := record.Decode(held)
			if e != api.OK || !yield(r, size) {
				return
			}
			b = b[size:]
		}
	}
}

// image is the bytes of a slot of that generation that has the head of s alone.
func image(generation int, s api.Saved) ([]byte, api.Errno) {
	l := head(s)
	out, e := frame.Seal(pack.Num(pack.Num(nil, generation), len(l)))
	if e != api.OK {
		return nil, e
	}
	for _, r := range l {
		b, e := sealed(r)
		if e != api.OK {
			return nil, e
		}
		out = append(out, b...)
	}
	return out, api.OK
}

// head is the records that say s.
func head(s api.Saved) []api.Record {
	l := []api.Record{
		{Kind: api.RcBase, Index: s.Base, Term: s.BaseTerm, Conf: s.Conf, Snap: s.Snap},
		{Kind: api.RcHard, Term: s.Term, Vote: s.Vote},
	}
	for _, e := range s.Entries {
		l = append(l, api.Record{Kind: api.RcEntry, Entry: e})
	}
	return l
}

// sealed is the record's frame.
func sealed(r api.Record) ([]byte, api.Errno) {
	b, e := record.Encode(r)
	if e != api.OK {
		return nil, e
	}
	return frame.Seal(b)
}
