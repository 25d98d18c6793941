// Package whole is no layer of its own, but what layers lean on whose things
// have bytes that stand alone, with nothing behind them.
package whole

import (
	"bailey/api"
	"bailey/pack"
)

// Read answers the thing of which b is the bytes: as read reads it, and of such
// as fit. ErrForm of one that does not comes behind the reader's own errors.
func Read[T any](b []byte, read func(*pack.Reader) T, fits func(T) bool) (T, api.Errno) {
	r := pack.Open(b)
	x := read(r)
	if !fits(x) {
		r.Fail(api.ErrForm)
	}
	if e := r.End(); e != api.OK {
		var none T
		return none, e
	}
	return x, api.OK
}
