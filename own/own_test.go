package own_test

import (
	"fmt"
	"testing"

	"bailey/api"
	"bailey/own"
)

// whole is a machine each of whose lists has something, with room behind it.
func whole() api.Machine {
	return api.Machine{
		Lane: 1, Index: 2,
		Catalog: api.Catalog{
			Time: 3, Spaces: room(api.Space{Name: "a"}), Ledger: api.Ledger{Quota: 4, Holds: room(api.Hold{ID: 5})},
			Snaps:   room(api.Snap{Name: "b", Pieces: room(api.Piece{Size: 6}, api.Piece{Size: 7})}, api.Snap{Name: "c", Pieces: room(api.Piece{Size: 8})}),
			Revoked: api.Revoked{Epoch: 9, IDs: room(10)}, Chain: api.Chain{Length: 11, Head: "h"}, Swept: 12,
		},
		Board:    api.Board{Capacity: 13, Shares: room(api.Share{Lane: 14})},
		Sessions: room(api.Session{Client: 15, Reply: room(byte(16))}, api.Session{Client: 17, Reply: room(byte(18))}),
	}
}

// command is one each of whose lists has something.
func command() api.Command {
	return api.Command{Client: 1, Seq: 2, Caveats: room(api.Caveat{Kind: 3}), Space: "a", Pieces: room(api.Piece{Size: 4})}
}

func room[T any](l ...T) []T { return append(make([]T, 0, 9), l...) }

// spoil writes over all that m's lists have, and over the room behind them.
func spoil(m api.Machine) {
	for _, s := range m.Catalog.Snaps {
		clear(s.Pieces[:cap(s.Pieces)])
	}
	for _, s := range m.Sessions {
		clear(s.Reply[:cap(s.Reply)])
	}
	c := m.Catalog
	clear(c.Spaces[:cap(c.Spaces)])
	clear(c.Ledger.Holds[:cap(c.Ledger.Holds)])
	clear(c.Revoked.IDs[:cap(c.Revoked.IDs)])
	clear(c.Snaps[:cap(c.Snaps)])
	clear(m.Board.Shares[:cap(m.Board.Shares)])
	clear(m.Sessions[:cap(m.Sessions)])
}

// apart looks whether spoiling one does not reach the other.
func apart(t *testing.T, what string, one, other any, spoil func()) {
	t.Helper()
	want := fmt.Sprint(one)
	if fmt.Sprint(other) != want {
		t.Errorf("%s: %v, not %v", what, other, one)
	}
	spoil()
	if fmt.Sprint(other) != want {
		t.Errorf("%s is shared: %v", what, other)
	}
}

func TestApart(t *testing.T) {
	m, c := whole(), whole()
	got := own.Machine(c)
	apart(t, "a machine", m, got, func() { spoil(c) })
	apart(t, "what was copied", m, got, func() { spoil(own.Machine(got)) })
	c = whole()
	apart(t, "a catalog", m.Catalog, own.Catalog(c.Catalog), func() { spoil(c) })
	c = whole()
	apart(t, "a board", m.Board, own.Board(c.Board), func() { spoil(c) })
	c = whole()
	apart(t, "a snapshot", m.Catalog.Snaps[0], own.Snap(c.Catalog.Snaps[0]), func() { spoil(c) })
	x, y := command(), command()
	apart(t, "a command", x, own.Command(y), func() { clear(y.Caveats); clear(y.Pieces) })
}

func TestNone(t *testing.T) {
	if m := own.Machine(api.Machine{}); fmt.Sprint(m) != fmt.Sprint(api.Machine{}) {
		t.Errorf("%v", m)
	}
	if s := own.Snap(api.Snap{}); s.Pieces != nil {
		t.Errorf("%v", s)
	}
	if x := own.Command(api.Command{}); x.Caveats != nil || x.Pieces != nil {
		t.Errorf("%v", x)
	}
}
