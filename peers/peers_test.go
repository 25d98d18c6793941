package peers_test

import (
	"math"
	"math/rand"
	"slices"
	"testing"

	"bailey/api"
	"bailey/peers"
)

// confs are all sets of nodes, and numbers that are more or less than that.
func confs() []int {
	l := []int{math.MinInt, math.MinInt + 127, -1 << 31, 1 << 31, 1<<31 + 5, 1<<61 + 3, 1<<62 + 7, math.MaxInt}
	for conf := -140; conf <= 260; conf++ {
		l = append(l, conf)
	}
	return l
}

// some are the nodes from 0 to 6 whose bit conf has, told in the plainest way.
func some(conf int) []int {
	var l []int
	for node, bit := range []int{1, 2, 4, 8, 16, 32, 64} {
		if conf&bit != 0 {
			l = append(l, node)
		}
	}
	return l
}

// P12.1: from 1 to 127.
func TestCheck(t *testing.T) {
	for _, conf := range confs() {
		want := api.ErrArg
		if conf > 0 && conf < 128 {
			want = api.OK
		}
		if e := peers.Check(conf); e != want {
			t.Errorf("Check(%d): %d, not %d", conf, e, want)
		}
	}
	for conf, want := range map[int]api.Errno{-1: api.ErrArg, 0: api.ErrArg, 1: api.OK, 127: api.OK, 128: api.ErrArg} {
		if e := peers.Check(conf); e != want {
			t.Errorf("Check(%d): %d, not %d", conf, e, want)
		}
	}
}

// P12.1: a member is a node from 0 to 6 whose bit is set.
func TestHas(t *testing.T) {
	for _, conf := range confs() {
		members := some(conf)
		for _, node := range []int{math.MinInt, -64, -1, 0, 1, 2, 3, 4, 5, 6, 7, 8, 31, 61, 62, 63, 64, 70, math.MaxInt} {
			if got := peers.Has(conf, node); got != slices.Contains(members, node) {
				t.Errorf("Has(%d, %d): %t", conf, node, got)
			}
		}
	}
	if peers.Has(255, 7) || peers.Has(-1, 7) || peers.Has(-1, -1) || !peers.Has(64, 6) || !peers.Has(-1, 0) {
		t.Error("the edges")
	}
}

// P12.1: how many of the nodes 0 to 6 are in it, whatever else is; and which,
// rising.
func TestCountAndList(t *testing.T) {
	for _, conf := range confs() {
		members := some(conf)
		if n := peers.Count(conf); n != len(members) {
			t.Errorf("Count(%d): %d, not %d", conf, n, len(members))
		}
		if l := peers.List(conf); !slices.Equal(l, members) {
			t.Errorf("List(%d): %v, not %v", conf, l, members)
		}
	}
	if !slices.Equal(peers.List(127), []int{0, 1, 2, 3, 4, 5, 6}) || len(peers.List(0)) != 0 || len(peers.List(128)) != 0 || !slices.Equal(peers.List(64+8+1), []int{0, 3, 6}) {
		t.Error("the edges")
	}
}

// P12.1: more than half, of every count, of members that are in yes too.
func TestQuorum(t *testing.T) {
	for _, c := range []struct {
		conf, yes int
		want      bool
	}{
		{7, 3, true}, {7, 1, false}, {7, 7, true}, {7, 0, false},
		{7, 6, true}, {7, 5, true}, {7, 2, false}, {7, 8 + 1, false}, {7, 127, true}, {7, 120, false},
		{1, 1, true}, {1, 0, false}, {1, 126, false}, {64, 64, true}, {64, 63, false},
		{3, 1, false}, {3, 2, false}, {3, 3, true},
		{15, 3, false}, {15, 7, true}, {15, 12, false}, {15, 14, true},
		{31, 3, false}, {31, 7, true}, {31, 28, true},
		{63, 7, false}, {63, 15, true}, {127, 7, false}, {127, 15, true},
		{0, 0, false}, {0, 127, false}, {0, -1, false}, {128, 128, false}, {128, 255, false},
		{128 + 7, 128 + 1, false}, {128 + 7, 3, true}, {7, -1, true}, {-1, 15, true}, {-1, 7, false},
	} {
		if got := peers.Quorum(c.conf, c.yes); got != c.want {
			t.Errorf("Quorum(%d, %d): %t", c.conf, c.yes, got)
		}
	}
	for conf := -2; conf < 260; conf++ {
		for yes := -2; yes < 260; yes++ {
			both := 0
			for _, node := range some(conf) {
				if slices.Contains(some(yes), node) {
					both++
				}
			}
			if got := peers.Quorum(conf, yes); got != (both+both > len(some(conf))) {
				t.Errorf("Quorum(%d, %d): %t", conf, yes, got)
			}
		}
	}
}

// P12.1: those below n, which is at least 0 and at most 7.
func TestAll(t *testing.T) {
	for n, want := range map[int]int{
		math.MinInt: 0, -64: 0, -1: 0, 0: 0, 1: 1, 2: 3, 3: 7, 4: 15, 5: 31, 6: 63, 7: 127, 8: 127, 63: 127, 64: 127, 65: 127, math.MaxInt: 127,
	} {
		if got := peers.All(n); got != want {
			t.Errorf("All(%d): %d, not %d", n, got, want)
		}
	}
}

// P12.2: both may be, and one node is in one alone.
func TestChange(t *testing.T) {
	for _, c := range []struct {
		old, conf int
		want      api.Errno
	}{
		{7, 15, api.OK}, {15, 7, api.OK}, {7, 3, api.OK}, {126, 127, api.OK}, {127, 63, api.OK}, {1, 3, api.OK},
		{7, 7, api.ErrConf}, {127, 127, api.ErrConf}, {0, 0, api.ErrConf},
		{7, 31, api.ErrConf}, {7, 11, api.ErrConf}, {1, 2, api.ErrConf}, {7, 1, api.ErrConf}, {7, 127, api.ErrConf},
		{1, 0, api.ErrConf}, {0, 1, api.ErrConf}, {7, 7 + 128, api.ErrConf}, {7 + 128, 7, api.ErrConf},
		{127, 255, api.ErrConf}, {128, 0, api.ErrConf}, {128 + 7, 128 + 15, api.ErrConf},
		{-1, 127, api.ErrConf}, {-8, 7, api.ErrConf}, {math.MinInt + 3, 1, api.ErrConf}, {1, math.MinInt + 1, api.ErrConf},
	} {
		if e := peers.Change(c.old, c.conf); e != c.want {
			t.Errorf("Change(%d, %d): %d, not %d", c.old, c.conf, e, c.want)
		}
	}
	for old := -2; old < 260; old++ {
		for conf := -2; conf < 260; conf++ {
			want := api.ErrConf
			if old > 0 && old < 128 && conf > 0 && conf < 128 && len(some(old^conf)) == 1 {
				want = api.OK
			}
			if e := peers.Change(old, conf); e != want {
				t.Errorf("Change(%d, %d): %d, not %d", old, conf, e, want)
			}
		}
	}
}

// P12.3: by example: one member, as many of either half, equal numbers,
// numbers below 0, no members; a node that is none does not count.
func TestMatch(t *testing.T) {
	for _, c := range []struct {
		conf int
		m    [7]int
		want int
	}{
		{7, [7]int{5, 3, 4}, 4},
		{7, [7]int{5, 3, 4, 9, 9, 9, 9}, 4},
		{15, [7]int{5, 3, 4, 1}, 3},
		{3, [7]int{5, 3}, 3},
		{63, [7]int{6, 5, 4, 3, 2, 1, 9}, 3},
		{31, [7]int{6, 5, 4, 3, 2}, 4},
		{127, [7]int{7, 1, 6, 2, 5, 3, 4}, 4},
		{1, [7]int{5, 9, 9}, 5},
		{64, [7]int{9, 9, 9, 9, 9, 9, 2}, 2},
		{64 + 8 + 1, [7]int{1, 9, 9, 2, 9, 9, 3}, 2},
		{7, [7]int{4, 4, 4}, 4},
		{7, [7]int{4, 4, 9}, 4},
		{7, [7]int{4, 1, 4}, 4},
		{15, [7]int{4, 4, 1, 1}, 1},
		{7, [7]int{-5, -3, -4}, -4},
		{7, [7]int{-5, 3, 0}, 0},
		{3, [7]int{-5, 3}, -5},
		{1, [7]int{math.MinInt}, math.MinInt},
		{1, [7]int{math.MaxInt}, math.MaxInt},
		{7, [7]int{math.MinInt, math.MaxInt, math.MaxInt}, math.MaxInt},
		{0, [7]int{5}, 0},
		{0, [7]int{-5, -5, -5, -5, -5, -5, -5}, 0},
		{128, [7]int{5, 5, 5, 5, 5, 5, 5}, 0},
		{128 + 1, [7]int{5}, 5},
		{-1, [7]int{7, 1, 6, 2, 5, 3, 4}, 4},
		{math.MinInt, [7]int{5}, 0},
	} {
		if got := peers.Match(c.conf, c.m); got != c.want {
			t.Errorf("Match(%d, %v): %d, not %d", c.conf, c.m, got, c.want)
		}
	}
}

// P12.5: a quorum has at least Match, and none has more.
func TestMatchIsOfAQuorum(t *testing.T) {
	r := rand.New(rand.NewSource(12))
	for conf := 1; conf < 128; conf++ {
		for range 40 {
			var m [7]int
			for i := range m {
				m[i] = r.Intn(9) - 4
			}
			got := peers.Match(conf, m)
			have, more := 0, 0
			for node, n := range m {
				if n >= got {
					have |= 1 << node
				}
				if n > got {
					more |= 1 << node
				}
			}
			if !peers.Quorum(conf, have) || peers.Quorum(conf, more) {
				t.Errorf("Match(%d, %v): %d", conf, m, got)
			}
		}
	}
}

// P12.4: two quorums of the same members, or of members of which one was
// changed, have a node in common.
func TestQuorumsMeet(t *testing.T) {
	for old := 1; old < 128; old++ {
		for conf := 1; conf < 128; conf++ {
			if old == conf || peers.Change(old, conf) == api.OK {
				quorumsMeet(t, old, conf)
			}
		}
	}
}

// quorumsMeet looks at all quorums of the one and of the other.
func quorumsMeet(t *testing.T, old, conf int) {
	for a := range 128 {
		if a&^old != 0 || !peers.Quorum(old, a) {
			continue
		}
		for b := range 128 {
			if b&^conf == 0 && peers.Quorum(conf, b) && a&b == 0 {
				t.Fatalf("the quorums %d of %d and %d of %d", a, old, b, conf)
			}
		}
	}
}

// Rule R3: what is answered is the caller's own.
func TestNothingShared(t *testing.T) {
	l := peers.List(7)
	l[0], l[2] = 9, 9
	_ = append(l, 9)
	if again := peers.List(7); !slices.Equal(again, []int{0, 1, 2}) {
		t.Errorf("List(7): %v", again)
	}
}
