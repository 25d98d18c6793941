package machine

import (
	"bytes"
	"slices"

	"bailey/api"
	"bailey/bearer"
	"bailey/lists"
	"bailey/manifest"
	"bailey/nums"
	"bailey/pack"
	"bailey/token"
	"bailey/whole"
)

const (
	lastKind   = api.OpGet
	lastCode   = 255
	mostNames  = api.MaxSnaps
	mostPieces = api.MaxPieces // and tickets: one for each of them
	ticketSize = 32
)

// Reply answers the bytes of what a client is told.
func Reply(r api.Result) ([]byte, api.Errno) {
	if !fits(r) {
		return nil, api.ErrArg
	}
	b := lists.Numbers(nil, r.Kind, int(r.Code), r.Num, r.Bytes, r.Time)
	b = manifest.PutPieces(lists.Put(b, r.Names, textCode), r.Pieces)
	b = pack.Text(lists.Put(b, r.Tickets, textCode), string(r.Data))
	return bearer.Put(b, r.Token), api.OK
}

// reply is Reply of what the machine itself tells.
func reply(r api.Result) []byte {
	b, _ := Reply(r)
	return b
}

func textCode(s string) []byte { return pack.Text(nil, s) }

// fits tells whether r may be told.
func fits(r api.Result) bool {
	_, e := manifest.Bytes(r.Pieces)
	return lists.Within(lastKind, r.Kind) && lists.Within(lastCode, int(r.Code)) &&
		lists.Within(api.MaxBytes, r.Num, r.Bytes, r.Time) &&
		len(r.Names) <= mostNames && !slices.ContainsFunc(r.Names, beyond(0, api.MaxName)) &&
		e == api.OK &&
		len(r.Tickets) <= mostPieces && !slices.ContainsFunc(r.Tickets, beyond(ticketSize, ticketSize)) &&
		len(r.Data) <= api.MaxPiece &&
		bearer.Fits(r.Token)
}

// beyond tells the texts that have fewer than low bytes, or more than high,
// from others.
func beyond(low, high int) func(string) bool {
	return func(s string) bool { return !nums.Within(len(s), low, high) }
}

// ReadReply answers what a client is told by b.
func ReadReply(b []byte) (api.Result, api.Errno) { return whole.Read(b, readResult, fits) }

// readResult reads a result's fields, each up to its limit.
func readResult(r *pack.Reader) api.Result {
	return api.Result{
		Kind:    r.Num(lastKind),
		Code:    api.Errno(r.Num(lastCode)),
		Num:     r.Num(api.MaxBytes),
		Bytes:   r.Num(api.MaxBytes),
		Time:    r.Num(api.MaxBytes),
		Names:   lists.Read(r, mostNames, text(api.MaxName)),
		Pieces:  manifest.ReadPieces(r),
		Tickets: lists.Read(r, mostPieces, text(ticketSize)),
		Data:    []byte(r.Text(api.MaxPiece)),
		Token:   bearer.Read(r),
	}
}

// text reads a text of at most most bytes.
func text(most int) func(*pack.Reader) string {
	return func(r *pack.Reader) string { return r.Text(most) }
}

// SameReply tells whether a and b are the same, field by field.
func SameReply(a, b api.Result) bool {
	return a.Kind == b.Kind && a.Code == b.Code &&
		a.Num == b.Num && a.Bytes == b.Bytes && a.Time == b.Time &&
		slices.Equal(a.Names, b.Names) && manifest.SamePieces(a.Pieces, b.Pieces) &&
		slices.Equal(a.Tickets, b.Tickets) && bytes.Equal(a.Data, b.Data) &&
		token.Same(a.Token, b.Token)
}
