// Package own is no layer of its own, but what layers lean on that keep what has
// several lists: a copy of it that shares no memory with what was handed in.
package own

import (
	"bytes"
	"slices"

	"bailey/api"
	"bailey/lists"
)

// Snap is s in memory of its own.
func Snap(s api.Snap) api.Snap {
	s.Pieces = slices.Clone(s.Pieces)
	return s
}

// Catalog is c in memory of its own.
func Catalog(c api.Catalog) api.Catalog {
	c.Spaces = slices.Clone(c.Spaces)
	c.Ledger.Holds = slices.Clone(c.Ledger.Holds)
	c.Snaps = lists.Copy(c.Snaps, Snap)
	c.Revoked.IDs = slices.Clone(c.Revoked.IDs)
	return c
}

// Board is b in memory of its own.
func Board(b api.Board) api.Board {
	b.Shares = slices.Clone(b.Shares)
	return b
}

// Machine is m in memory of its own.
func Machine(m api.Machine) api.Machine {
	m.Catalog = Catalog(m.Catalog)
	m.Board = Board(m.Board)
	m.Sessions = lists.Copy(m.Sessions, session)
	return m
}

// Command is x in memory of its own.
func Command(x api.Command) api.Command {
	x.Caveats = slices.Clone(x.Caveats)
	x.Pieces = slices.Clone(x.Pieces)
	return x
}

func session(s api.Session) api.Session {
	s.Reply = bytes.Clone(s.Reply)
	return s
}
