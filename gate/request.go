package gate

import (
	"bytes"

	"bailey/api"
	"bailey/bearer"
	"bailey/lists"
	"bailey/manifest"
	"bailey/nums"
	"bailey/pack"
	"bailey/token"
	"bailey/whole"
)

const (
	lastLane   = api.MaxLanes - 1
	lastClient = api.MaxClients - 1
	lastKind   = api.OpGet
	ticketSize = 32
)

// fits tells whether r may be.
func fits(r api.Request) bool {
	_, e := manifest.Bytes(r.Pieces)
	return lists.Within(lastLane, r.Lane) && lists.Within(lastClient, r.Client) &&
		nums.Within(r.Seq, 1, api.MaxNum) && nums.Within(r.Kind, 1, lastKind) &&
		bearer.Fits(r.Token) &&
		lists.Within(api.MaxName, len(r.Space), len(r.Name)) &&
		lists.Within(api.MaxNum, r.Num) && lists.Within(api.MaxBytes, r.Bytes) && lists.Within(api.MaxTime, r.Time) &&
		e == api.OK &&
		len(r.Data) <= api.MaxPiece &&
		(len(r.Ticket) == 0 || len(r.Ticket) == ticketSize)
}

// Encode answers the request's bytes: with all its lists full, they are far
// fewer than MaxRequest.
func Encode(r api.Request) ([]byte, api.Errno) {
	if !fits(r) {
		return nil, api.ErrArg
	}
	b := bearer.Put(lists.Numbers(nil, r.Lane, r.Client, r.Seq, r.Kind), r.Token)
	b = pack.Text(pack.Text(b, r.Space), r.Name)
	b = manifest.PutPieces(lists.Numbers(b, r.Num, r.Bytes, r.Time), r.Pieces)
	return pack.Text(pack.Text(b, string(r.Data)), r.Ticket), api.OK
}

// Decode answers the request of which b is the bytes.
func Decode(b []byte) (api.Request, api.Errno) {
	if len(b) > api.MaxRequest {
		return api.Request{}, api.ErrLong
	}
	return whole.Read(b, read, fits)
}

// read reads a request's fields, each up to its limit.
func read(r *pack.Reader) api.Request {
	return api.Request{
		Lane:   r.Num(lastLane),
		Client: r.Num(lastClient),
		Seq:    r.Num(api.MaxNum),
		Kind:   r.Num(lastKind),
		Token:  bearer.Read(r),
		Space:  r.Text(api.MaxName),
		Name:   r.Text(api.MaxName),
		Num:    r.Num(api.MaxNum),
		Bytes:  r.Num(api.MaxBytes),
		Time:   r.Num(api.MaxTime),
		Pieces: manifest.ReadPieces(r),
		Data:   []byte(r.Text(api.MaxPiece)),
		Ticket: r.Text(ticketSize),
	}
}

// Same tells whether a and b are the same request.
func Same(a, b api.Request) bool {
	return a.Lane == b.Lane && a.Client == b.Client && a.Seq == b.Seq && a.Kind == b.Kind &&
		token.Same(a.Token, b.Token) &&
		a.Space == b.Space && a.Name == b.Name &&
		a.Num == b.Num && a.Bytes == b.Bytes && a.Time == b.Time &&
		manifest.SamePieces(a.Pieces, b.Pieces) && bytes.Equal(a.Data, b.Data) &&
		a.Ticket == b.Ticket
}
