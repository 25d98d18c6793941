package keep_test

import (
	"math"
	"testing"

	"bailey/keep"
)

// turn is a turn: how much is not sure, and how much of it is to stay.
type turn struct{ loose, stays int }

func TestTurns(t *testing.T) {
	for _, c := range []struct {
		what  string
		keeps []int
		turns []turn
	}{
		{"no keeps", nil, []turn{{5, 0}, {0, 0}, {1, 0}}},
		{"empty keeps", []int{}, []turn{{5, 0}, {7, 0}}},
		{"one, again and again", []int{2}, []turn{{5, 2}, {3, 2}, {2, 2}}},
		{"several, and from the first one on again", []int{1, 0, 3}, []turn{{9, 1}, {9, 0}, {9, 3}, {9, 1}, {9, 0}}},
		{"at most all", []int{4, math.MaxInt}, []turn{{3, 3}, {3, 3}, {4, 4}, {0, 0}}},
		{"at least 0", []int{-1, math.MinInt, 1}, []turn{{3, 0}, {3, 0}, {3, 1}}},
	} {
		next := keep.Turns(c.keeps)
		for i, x := range c.turns {
			if n := next(x.loose); n != x.stays {
				t.Errorf("%s: of turn %d %d stay, not %d", c.what, i, n, x.stays)
			}
		}
	}
}
