package catalog

import (
	"bailey/api"
	"bailey/ledger"
	"bailey/manifest"
	"bailey/refuse"
	"bailey/revoke"
	"bailey/spaces"
)

// does does to c what x's kind says, and answers what the client is told. A
// kind that is refused may have begun: c is of no use then.
func does(c *api.Catalog, x api.Command) api.Result {
	switch x.Kind {
	case api.OpSpace:
		return space(c, x)
	case api.OpReserve:
		return reserve(c, x)
	case api.OpRelease:
		return release(c, x)
	case api.OpCommit:
		return commit(c, x)
	case api.OpDelete:
		return remove(c, x)
	case api.OpQuota:
		return quota(c, x)
	case api.OpRevoke:
		return revoked(c, x)
	case api.OpEpoch:
		return epoch(c)
	case api.OpMint:
		return mint(c)
	}
	return sweep(c)
}

// reads answers what the client is told of c, which x's kind reads.
func reads(c api.Catalog, x api.Command) api.Result {
	switch x.Kind {
	case api.OpList:
		allowed(c, x, false)
		return api.Result{Names: manifest.Names(c.Snaps, x.Space)}
	case api.OpRestore:
		return restore(c, x)
	}
	return api.Result{Num: c.Ledger.Quota, Bytes: c.Ledger.Used + c.Ledger.Held}
}

// allowed refuses x, unless there is its namespace, and its client may write,
// or read, there.
func allowed(c api.Catalog, x api.Command, write bool) {
	_, ok := spaces.Find(c.Spaces, x.Space)
	refuse.Unless(ok, api.ErrNone)
	refuse.Unless(spaces.May(c.Spaces, x.Space, x.Client, write), api.ErrDenied)
}

// held answers the hold that x names; one of another client is none to it.
func held(c api.Catalog, x api.Command) api.Hold {
	h, ok := ledger.Find(c.Ledger, x.Num)
	refuse.Unless(ok && h.Client == x.Client, api.ErrNone)
	return h
}

func space(c *api.Catalog, x api.Command) api.Result {
	c.Spaces = refuse.Got(spaces.Set(c.Spaces, api.Space{Name: x.Name, Readers: x.Num, Writers: x.Bytes}))
	return api.Result{}
}

func reserve(c *api.Catalog, x api.Command) api.Result {
	allowed(*c, x, true)
	l, id, e := ledger.Reserve(c.Ledger, api.Hold{
		Client: x.Client,
		Bytes:  x.Bytes,
		Until:  after(c.Time, x.Time),
		Time:   c.Time,
		Space:  x.Space,
	})
	c.Ledger = refuse.Got(l, e)
	return api.Result{Num: id, Bytes: x.Bytes, Time: c.Time}
}

func release(c *api.Catalog, x api.Command) api.Result {
	held(*c, x)
	c.Ledger = refuse.Got(ledger.Release(c.Ledger, x.Num))
	return api.Result{}
}

func commit(c *api.Catalog, x api.Command) api.Result {
	allowed(*c, x, true)
	refuse.Unless(held(*c, x).Space == x.Space, api.ErrNone)
	n := refuse.Got(manifest.Bytes(x.Pieces))
	c.Snaps = refuse.Got(manifest.Add(c.Snaps, api.Snap{
		Space:  x.Space,
		Name:   x.Name,
		Bytes:  n,
		Time:   c.Time,
		Keep:   after(c.Time, x.Time),
		Pieces: x.Pieces,
	}))
	c.Ledger = refuse.Got(ledger.Spend(c.Ledger, x.Num, n))
	return api.Result{Bytes: n, Time: c.Time}
}

func remove(c *api.Catalog, x api.Command) api.Result {
	allowed(*c, x, true)
	l, n, e := manifest.Remove(c.Snaps, x.Space, x.Name, c.Time)
	c.Snaps = refuse.Got(l, e)
	c.Ledger = refuse.Got(ledger.Free(c.Ledger, n))
	return api.Result{Bytes: n}
}

func quota(c *api.Catalog, x api.Command) api.Result {
	c.Ledger = refuse.Got(ledger.Quota(c.Ledger, x.Bytes))
	return api.Result{}
}

func revoked(c *api.Catalog, x api.Command) api.Result {
	c.Revoked = refuse.Got(revoke.Revoke(c.Revoked, x.Num))
	return api.Result{}
}

func epoch(c *api.Catalog) api.Result {
	c.Revoked = refuse.Got(revoke.Bump(c.Revoked))
	return api.Result{Num: c.Revoked.Epoch}
}

func mint(c *api.Catalog) api.Result {
	r, id, e := revoke.Mint(c.Revoked)
	c.Revoked = refuse.Got(r, e)
	return api.Result{Num: id, Time: r.Epoch}
}

func sweep(c *api.Catalog) api.Result {
	c.Swept = c.Time
	return api.Result{Time: c.Time}
}

func restore(c api.Catalog, x api.Command) api.Result {
	allowed(c, x, false)
	s, ok := manifest.Find(c.Snaps, x.Space, x.Name)
	refuse.Unless(ok, api.ErrNone)
	return api.Result{Bytes: s.Bytes, Time: s.Time, Pieces: s.Pieces}
}
