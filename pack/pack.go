// Package pack is layer 2: numbers and texts as bytes, each in one form only,
// so that equal things have equal bytes and sums of them may be compared.
package pack

import (
	"bailey/api"
)

// A number's bytes hold groups of seven bits; nine of them hold all numbers
// up to 2^63 - 1. All bytes but the last one have the mark more.
const (
	groupBits = 7
	maxGroups = 9
	more      = 1 << groupBits
)

// Num is b and the number's bytes behind it.
func Num(b []byte, n int) []byte {
	out := grown(b, Size(n))
	layNum(out[len(b):], n)
	return out
}

// Text is b, the number of the text's bytes, and these.
func Text(b []byte, s string) []byte {
	start := len(b) + Size(len(s))
	out := grown(b, Size(len(s))+len(s))
	layNum(out[len(b):start], len(s))
	copy(out[start:], s)
	return out
}

// Yes is b and 1 or 0 behind it.
func Yes(b []byte, yes bool) []byte {
	out := grown(b, 1)
	if yes {
		out[len(b)] = 1
	}
	return out
}

// Size is how many the number's bytes are.
func Size(n int) int {
	size := 1
	for n >= more {
		n >>= groupBits
		size++
	}
	return size
}

// grown is b in new memory with n zeros behind it: what the caller appends to
// b later, or has behind it now, is never touched.
func grown(b []byte, n int) []byte {
	out := make([]byte, len(b)+n)
	copy(out, b)
	return out
}

// layNum fills out, which is Size(n) long, with the number's bytes; it goes
// from the last one on, as that is where the lowest group stands.
func layNum(out []byte, n int) {
	n = max(n, 0)
	for i := len(out) - 1; i >= 0; i-- {
		out[i] = byte(n%more) | more
		n >>= groupBits
	}
	out[len(out)-1] &^= more
}

// Reader reads bytes from left to right. Its first error stays, and takes all
// that is left.
type Reader struct {
	made bool // tells a reader of no bytes from one that no call made
	rest []byte
	err  api.Errno
}

// Open is a reader of a copy of b.
func Open(b []byte) *Reader {
	return &Reader{made: true, rest: grown(b, 0)}
}

// Num reads a number that is at most most.
func (r *Reader) Num(most int) int {
	if r.Err() != api.OK {
		return 0
	}
	n, size, e := leadingNum(r.rest)
	if e == api.OK && n > most {
		e = api.ErrLong
	}
	if e != api.OK {
		r.Fail(e)
		return 0
	}
	r.take(size)
	return n
}

// Text reads a text of at most most bytes.
func (r *Reader) Text(most int) string {
	return string(r.take(r.Num(most)))
}

// Yes reads a yes or a no.
func (r *Reader) Yes() bool {
	b := r.take(1)
	if len(b) == 0 {
		return false
	}
	if b[0] > 1 {
		r.Fail(api.ErrForm)
		return false
	}
	return b[0] == 1
}

// Fail makes e the error, if there is none yet: whoever reads something of
// several fields tells so that one of them may not be.
func (r *Reader) Fail(e api.Errno) {
	if r.Err() != api.OK || e == api.OK {
		return
	}
	r.err = e
	r.rest = nil
}

// Left is how many bytes are left.
func (r *Reader) Left() int {
	if r == nil {
		return 0
	}
	return len(r.rest)
}

// Err is the first error.
func (r *Reader) Err() api.Errno {
	if r == nil || !r.made {
		return api.ErrNil
	}
	return r.err
}

// End is the first error, or ErrForm if bytes are left.
func (r *Reader) End() api.Errno {
	if e := r.Err(); e != api.OK {
		return e
	}
	if len(r.rest) > 0 {
		return api.ErrForm
	}
	return api.OK
}

// take takes the next n bytes off, or none behind an error. They have no room
// behind them, so that an append to them can't reach what is still to be read.
func (r *Reader) take(n int) []byte {
	if r.Err() != api.OK {
		return nil
	}
	if n > len(r.rest) {
		r.Fail(api.ErrShort)
		return nil
	}
	b := r.rest[:n:n]
	r.rest = r.rest[n:]
	return b
}

// leadingNum is the number with which b begins, and how many bytes it has.
func leadingNum(b []byte) (n, size int, e api.Errno) {
	for i := range maxGroups {
		if i == len(b) {
			return 0, 0, api.ErrShort
		}
		// An empty highest group would be a second form of the same number.
		if i == 0 && b[i] == more {
			return 0, 0, api.ErrForm
		}
		n = n<<groupBits | int(b[i]%more)
		if b[i] < more {
			return n, i + 1, api.OK
		}
	}
	return 0, 0, api.ErrForm
}
