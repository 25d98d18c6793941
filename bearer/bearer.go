// Package bearer is no layer of its own, but what layers lean on whose things
// bear a token, or none: none is the zero token.
package bearer

import (
	"bailey/api"
	"bailey/pack"
	"bailey/token"
)

// Fits tells whether t is none, or may be.
func Fits(t api.Token) bool { return none(t) || token.Check(t) == api.OK }

// Put answers b and, behind it, yes and the token's bytes, or no.
func Put(b []byte, t api.Token) []byte {
	if none(t) {
		return pack.Yes(b, false)
	}
	return token.Put(pack.Yes(b, true), t)
}

// Read reads a token, or none; of one that may not be, r has the error.
func Read(r *pack.Reader) api.Token {
	if !r.Yes() {
		return api.Token{}
	}
	return token.Read(r)
}

func none(t api.Token) bool { return token.Same(t, api.Token{}) }
