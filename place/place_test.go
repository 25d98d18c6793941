package place_test

import (
	"crypto/sha256"
	"math"
	"math/rand"
	"slices"
	"strings"
	"testing"

	"bailey/place"
)

const (
	least    = math.MinInt
	greatest = math.MaxInt
)

// sum is the text's sum, as the library has it.
func sum(text string) string {
	b := sha256.Sum256([]byte(text))
	return string(b[:])
}

// sums are of no bytes, of 32 and of others.
func sums() []string {
	l := []string{"", "s", "\x00", "\xff\x00", strings.Repeat("k", 31), strings.Repeat("k", 33), strings.Repeat("\xff", 300), sum(""), sum("abc")}
	for i := range 60 {
		l = append(l, sum(strings.Repeat("x", i)))
	}
	return l
}

// counts are numbers of nodes, and how many nodes that are.
func counts() map[int]int {
	return map[int]int{-1: 0, 0: 0, 1: 1, 2: 2, 3: 3, 4: 4, 5: 5, 6: 6, 7: 7, 8: 7, 255: 7, 256: 7, least: 0, -8: 0, greatest: 7}
}

// ordered is the order of so many nodes, reckoned another way: each one stands
// behind as many as have a lower mark.
func ordered(s string, n int) []int {
	out := make([]int, n)
	for node := range n {
		at := 0
		for other := range n {
			if sum(s+string([]byte{byte(other)})) < sum(s+string([]byte{byte(node)})) {
				at++
			}
		}
		out[at] = node
	}
	return out
}

// P29.1: orders that were reckoned elsewhere.
func TestKnownOrders(t *testing.T) {
	for s, want := range map[string][2][]int{
		"":                          {{3, 1, 6, 0, 2, 4, 5}, {3, 1, 0, 2, 4}},
		"s":                         {{2, 0, 3, 6, 4, 1, 5}, {2, 0, 3, 4, 1}},
		"piece":                     {{1, 6, 5, 4, 3, 0, 2}, {1, 4, 3, 0, 2}},
		sum(""):                     {{6, 0, 2, 3, 1, 4, 5}, {0, 2, 3, 1, 4}},
		sum("abc"):                  {{1, 3, 4, 0, 2, 6, 5}, {1, 3, 4, 0, 2}},
		strings.Repeat("\xff", 300): {{5, 4, 6, 0, 3, 1, 2}, {4, 0, 3, 1, 2}},
	} {
		if l := place.Order(s, 7); !slices.Equal(l, want[0]) {
			t.Errorf("of 7, %q: %v, not %v", s, l, want[0])
		}
		if l := place.Order(s, 5); !slices.Equal(l, want[1]) {
			t.Errorf("of 5, %q: %v, not %v", s, l, want[1])
		}
		if l := place.Nodes(s, 7); !slices.Equal(l, want[0][:3]) {
			t.Errorf("of 7, %q: %v have it", s, l)
		}
	}
}

// P29.1: the nodes by their marks; the first ones of them have the piece.
func TestOrder(t *testing.T) {
	for _, s := range sums() {
		for n, many := range counts() {
			want := ordered(s, many)
			if l := place.Order(s, n); !slices.Equal(l, want) {
				t.Errorf("Order(%x, %d): %v, not %v", s, n, l, want)
			}
			if l := place.Nodes(s, n); !slices.Equal(l, want[:min(many, 3)]) {
				t.Errorf("Nodes(%x, %d): %v of %v", s, n, l, want)
			}
		}
	}
}

// P29.1: a node has it just if it is one of Nodes.
func TestHas(t *testing.T) {
	for _, s := range sums() {
		for n, many := range counts() {
			have := ordered(s, many)[:min(many, 3)]
			for _, node := range []int{least, -1, 0, 1, 2, 3, 4, 5, 6, 7, 8, 256, 257, greatest} {
				if place.Has(s, n, node) != slices.Contains(have, node) {
					t.Errorf("Has(%x, %d, %d), of %v", s, n, node, have)
				}
			}
		}
	}
}

// P29.1: of many pieces each node comes to have some, and to lack some.
func TestSpread(t *testing.T) {
	var have [7]int
	for i := range 700 {
		for _, node := range place.Nodes(sum(strings.Repeat("y", i)), 7) {
			have[node]++
		}
	}
	for node, n := range have {
		if n < 200 || n > 400 {
			t.Errorf("the node %d has %d of 700 pieces", node, n)
		}
	}
}

// P29.2: Nodes without me.
func TestOthers(t *testing.T) {
	for _, s := range sums() {
		for n, many := range counts() {
			nodes := ordered(s, many)[:min(many, 3)]
			for _, me := range []int{least, -1, 0, 1, 2, 3, 4, 5, 6, 7, 8, 256, greatest} {
				var want []int
				for _, node := range nodes {
					if node != me {
						want = append(want, node)
					}
				}
				if l := place.Others(s, n, me); !slices.Equal(l, want) {
					t.Errorf("Others(%x, %d, %d): %v, not %v", s, n, me, l, want)
				}
			}
		}
	}
}

// mine are the sums, of so many texts, of which the node is one of those that
// have them, and others are the rest.
func mine(me, n int) (mine, others []string) {
	for i := range 40 {
		s := sum(strings.Repeat("z", i))
		if slices.Contains(ordered(s, n)[:min(n, 3)], me) {
			mine = append(mine, s)
		} else {
			others = append(others, s)
		}
	}
	return mine, others
}

// P29.2: what me has to have and has not, in the order of the needs.
func TestLacks(t *testing.T) {
	for _, c := range []struct{ me, n int }{{0, 4}, {3, 4}, {0, 5}, {4, 5}, {2, 7}, {6, 7}} {
		m, o := mine(c.me, c.n)
		for what, x := range map[string]struct{ needs, have, want []string }{
			"none":                      {nil, nil, nil},
			"none, empty":               {[]string{}, []string{}, nil},
			"none, some had":            {nil, m, nil},
			"all":                       {m, nil, m},
			"others'":                   {o, nil, nil},
			"mine and others'":          {[]string{o[0], m[2], m[0], o[1], m[1]}, nil, []string{m[2], m[0], m[1]}},
			"twice":                     {[]string{m[1], m[0], m[1], m[1]}, nil, []string{m[1], m[0], m[1], m[1]}},
			"twice, had":                {[]string{m[1], m[0], m[1]}, []string{m[1]}, []string{m[0]}},
			"had":                       {m, m, nil},
			"had, in another order":     {[]string{m[3], m[1], m[2]}, []string{m[2], m[0], m[3]}, []string{m[1]}},
			"had twice":                 {[]string{m[0], m[1]}, []string{m[0], m[0]}, []string{m[1]}},
			"others had":                {[]string{m[0], o[0]}, []string{o[0], o[1], m[5], "", m[0][:31], m[0] + "\x00"}, []string{m[0]}},
			"falling":                   {reversed(m), nil, reversed(m)},
			"others' that are had, too": {o, o, nil},
		} {
			if l := place.Lacks(c.me, c.n, x.needs, x.have); !slices.Equal(l, x.want) {
				t.Errorf("%s, the node %d of %d: %x, not %x", what, c.me, c.n, l, x.want)
			}
		}
	}
}

func reversed(l []string) []string {
	l = slices.Clone(l)
	slices.Reverse(l)
	return l
}

// P29.2: of nodes that there are not, and of sums of any bytes.
func TestLacksEdges(t *testing.T) {
	all := sums()
	for n, many := range counts() {
		for _, me := range []int{least, -1, 0, many - 1, many, 7, 8, 256, greatest} {
			var want []string
			for _, s := range all {
				if slices.Contains(ordered(s, many)[:min(many, 3)], me) {
					want = append(want, s)
				}
			}
			if l := place.Lacks(me, n, all, nil); !slices.Equal(l, want) {
				t.Errorf("the node %d of %d: %d lack, not %d", me, n, len(l), len(want))
			}
			if n > 0 && n < 4 && me >= 0 && me < n && len(want) != len(all) {
				t.Errorf("the node %d of %d: %d are its own", me, n, len(want))
			}
		}
	}
}

// P29.2: any needs and what is had, against a plain list.
func TestLacksPlay(t *testing.T) {
	r := rand.New(rand.NewSource(29))
	all := sums()
	for range 400 {
		me, n := r.Intn(9)-1, r.Intn(10)-1
		var needs, have, want []string
		for range r.Intn(20) {
			needs = append(needs, all[r.Intn(len(all))])
		}
		for range r.Intn(20) {
			have = append(have, all[r.Intn(len(all))])
		}
		for _, s := range needs {
			if !slices.Contains(have, s) && slices.Contains(place.Nodes(s, n), me) {
				want = append(want, s)
			}
		}
		if l := place.Lacks(me, n, needs, have); !slices.Equal(l, want) {
			t.Fatalf("the node %d of %d, %x without %x: %x", me, n, needs, have, l)
		}
	}
}

// P29.3: each node stands in Order once; so many of them as there may be have
// the piece, each once.
func TestEachOnce(t *testing.T) {
	for _, s := range sums() {
		for n, many := range counts() {
			all, have := place.Order(s, n), place.Nodes(s, n)
			slices.Sort(all)
			for node, got := range all {
				if got != node {
					t.Errorf("%x, %d: %v stand there", s, n, all)
				}
			}
			slices.Sort(have)
			if len(all) != many || len(have) != min(many, 3) || len(slices.Compact(have)) != min(many, 3) {
				t.Errorf("%x, %d: %v have it of %v", s, n, have, all)
			}
		}
	}
}

// P29.1: a node that comes changes no order among the others.
func TestOrderGrows(t *testing.T) {
	for _, s := range sums() {
		for n := 1; n < 7; n++ {
			l := slices.DeleteFunc(place.Order(s, n+1), func(node int) bool { return node == n })
			if !slices.Equal(l, place.Order(s, n)) {
				t.Errorf("%x: %d nodes and one more", s, n)
			}
		}
	}
}

// R3, R4: what is handed in stays, and what is answered is the caller's own.
func TestShared(t *testing.T) {
	s := sum("abc")
	for what, call := range map[string]func() []int{
		"Order": func() []int { return place.Order(s, 7) }, "Nodes": func() []int { return place.Nodes(s, 7) }, "Others": func() []int { return place.Others(s, 7, 9) },
	} {
		one, other := call(), call()
		kept := slices.Clone(other)
		clear(one[:cap(one)])
		if !slices.Equal(other, kept) || !slices.Equal(call(), kept) {
			t.Errorf("%s is shared", what)
		}
	}
	m, o := mine(1, 3)
	if len(o) != 0 {
		t.Fatalf("of three nodes one lacks %d", len(o))
	}
	needs, have := append(make([]string, 0, 50), m...), append(make([]string, 0, 50), m[3:]...)
	l := place.Lacks(1, 3, needs, have)
	clear(l[:cap(l)])
	if !slices.Equal(needs, m) || !slices.Equal(have, m[3:]) || needs[:50][49] != "" || have[:50][49] != "" {
		t.Error("what was handed in is changed")
	}
	l = place.Lacks(1, 3, needs, have)
	clear(needs)
	clear(have)
	if !slices.Equal(l, m[:3]) {
		t.Errorf("what was answered is shared: %x", l)
	}
}

// The chapter's example.
func TestExample(t *testing.T) {
	for _, s := range sums() {
		if l := place.Nodes(s, 2); len(l) != 2 || l[0]+l[1] != 1 {
			t.Errorf("%x: %v", s, l)
		}
	}
}
