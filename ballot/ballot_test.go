package ballot_test

import (
	"math"
	"math/rand"
	"testing"

	"bailey/api"
	"bailey/ballot"
	"bailey/peers"
)

const (
	top      = api.MaxNum
	least    = math.MinInt
	greatest = math.MaxInt
)

// edges are numbers at, below and above what a call may be asked of.
var edges = []int{least, least + 1, -2, -1, 0, 1, 2, 3, 9, 10, 11, top - 1, top, top + 1, greatest - 1, greatest}

// P15.1: terms and indices alike, one above and one below.
func TestFresh(t *testing.T) {
	for _, c := range []struct {
		index, term, last, lastTerm int
		want                        bool
	}{
		{3, 2, 9, 1, true},
		{5, 2, 5, 2, true},
		{6, 2, 5, 2, true},
		{4, 2, 5, 2, false},
		{5, 3, 5, 2, true},
		{6, 3, 5, 2, true},
		{4, 3, 5, 2, true},
		{5, 1, 5, 2, false},
		{6, 1, 5, 2, false},
		{4, 1, 5, 2, false},
		{0, 0, 0, 0, true},
		{0, 1, top, 0, true},
		{top, 0, 0, 1, false},
		{top, top, top, top, true},
		{top - 1, top, top, top, false},
		{8, 1, 9, 1, false},
		{least, 1, greatest, 0, true},
		{least, 0, greatest, 0, false},
		{greatest, least, least, greatest, false},
	} {
		if got := ballot.Fresh(c.index, c.term, c.last, c.lastTerm); got != c.want {
			t.Errorf("Fresh(%d, %d, %d, %d): %t", c.index, c.term, c.last, c.lastTerm, got)
		}
	}
}

// P15.3: of two logs one at least is as new as the other one; both just if they
// end alike; and as new as one that is as new as a third one is as new as that.
func TestOneIsFresh(t *testing.T) {
	type end struct{ index, term int }
	var l []end
	for _, index := range []int{least, -1, 0, 1, 2, top, greatest} {
		for _, term := range []int{least, -1, 0, 1, 2, top, greatest} {
			l = append(l, end{index, term})
		}
	}
	fresh := func(a, b end) bool { return ballot.Fresh(a.index, a.term, b.index, b.term) }
	for _, a := range l {
		for _, b := range l {
			if !fresh(a, b) && !fresh(b, a) {
				t.Errorf("neither of %v and %v", a, b)
			}
			if (fresh(a, b) && fresh(b, a)) != (a == b) {
				t.Errorf("both of %v and %v", a, b)
			}
			for _, c := range l {
				if fresh(a, b) && fresh(b, c) && !fresh(a, c) {
					t.Errorf("%v, %v, %v", a, b, c)
				}
			}
		}
	}
}

// P15.1, P15.5: each node's timeout, no two alike; that of no node.
func TestTimeout(t *testing.T) {
	of := map[int]int{}
	for node, want := range []int{10, 13, 16, 19, 22, 25, 28} {
		got := ballot.Timeout(node)
		if got != want {
			t.Errorf("of %d: %d, not %d", node, got, want)
		}
		if other, ok := of[got]; ok {
			t.Errorf("of %d as of %d", node, other)
		}
		of[got] = node
	}
	if len(of) != api.MaxNodes {
		t.Errorf("%d timeouts", len(of))
	}
	for _, node := range []int{least, -4, -3, -2, -1, 7, 8, 62, top, greatest} {
		if got := ballot.Timeout(node); got != 10 {
			t.Errorf("of %d: %d", node, got)
		}
	}
}

// P15.2: leader 0 and beside 0; waited 9 and 10.
func TestDeaf(t *testing.T) {
	for _, leader := range []int{least, -1, 1, 2, 7, 8, greatest} {
		for waited, want := range map[int]bool{least: true, -1: true, 0: true, 1: true, 8: true, 9: true, 10: false, 11: false, 28: false, greatest: false} {
			if got := ballot.Deaf(leader, waited); got != want {
				t.Errorf("Deaf(%d, %d): %t", leader, waited, got)
			}
			if ballot.Deaf(0, waited) {
				t.Errorf("Deaf(0, %d)", waited)
			}
		}
	}
}

// P15.2: asked one below the term, at it and above; leader 0 and beside 0;
// waited 9 and 10; fresh or not.
func TestPre(t *testing.T) {
	for _, c := range []struct {
		term, asked, leader, waited int
		want                        bool
	}{
		{3, 4, 0, 0, true},
		{3, 5, 0, 9, true},
		{3, top, 0, 10, true},
		{3, 3, 0, 0, false},
		{3, 2, 0, 0, false},
		{3, 3, 0, 10, false},
		{3, 2, 2, 10, false},
		{3, 3, 2, 10, false},
		{3, 4, 2, 10, true},
		{3, 4, 2, 11, true},
		{3, 4, 2, 9, false},
		{3, 4, 2, 0, false},
		{3, 4, 1, 9, false},
		{3, 4, 7, 9, false},
		{3, 4, -1, 9, false},
		{3, 4, -1, 10, true},
		{0, 1, 0, 0, true},
		{0, 0, 0, 0, false},
		{top, top, 0, 0, false},
		{top - 1, top, 0, 0, true},
		{least, greatest, 0, 0, true},
		{greatest, least, 0, 0, false},
		{greatest, greatest, 0, 0, false},
	} {
		if got := ballot.Pre(c.term, c.asked, c.leader, c.waited, true); got != c.want {
			t.Errorf("Pre(%d, %d, %d, %d, true): %t", c.term, c.asked, c.leader, c.waited, got)
		}
		if ballot.Pre(c.term, c.asked, c.leader, c.waited, false) {
			t.Errorf("Pre(%d, %d, %d, %d, false)", c.term, c.asked, c.leader, c.waited)
		}
	}
}

// P15.2: of vote 0, of from + 1, of another one; never without fresh. What is
// one more of the greatest number is no number.
func TestVote(t *testing.T) {
	for from := range api.MaxNodes {
		for vote := range api.MaxNodes + 1 {
			want := vote == 0 || vote == from+1
			if got := ballot.Vote(vote, from, true); got != want {
				t.Errorf("Vote(%d, %d, true): %t", vote, from, got)
			}
		}
	}
	for _, c := range []struct {
		vote, from int
		want       bool
	}{
		{2, 1, true},
		{2, 0, false},
		{2, 2, false},
		{2, 3, false},
		{1, 0, true},
		{7, 6, true},
		{6, 6, false},
		{-1, -2, true},
		{-1, 0, false},
		{1, -2, false},
		{0, greatest, true},
		{0, least, true},
		{greatest, greatest - 1, true},
		{greatest, greatest, false},
		{least, greatest, false},
		{least, least, false},
		{least + 1, least, true},
		{greatest, least, false},
	} {
		if got := ballot.Vote(c.vote, c.from, true); got != c.want {
			t.Errorf("Vote(%d, %d, true): %t", c.vote, c.from, got)
		}
	}
	for _, vote := range edges {
		for _, from := range edges {
			if ballot.Vote(vote, from, false) {
				t.Errorf("Vote(%d, %d, false)", vote, from)
			}
		}
	}
}

// P15.2: with just too few votes and with just enough.
func TestWon(t *testing.T) {
	for _, c := range []struct {
		conf, votes int
		want        bool
	}{
		{1, 0, false}, {1, 1, true}, {1, 2, false}, {1, 126, false},
		{3, 1, false}, {3, 2, false}, {3, 3, true},
		{7, 1, false}, {7, 3, true}, {7, 5, true}, {7, 7, true}, {7, 8 + 1, false},
		{15, 3, false}, {15, 7, true},
		{31, 3, false}, {31, 7, true}, {31, 32 + 64 + 3, false},
		{63, 7, false}, {63, 15, true},
		{127, 7, false}, {127, 15, true}, {127, 127, true},
		{64, 64, true}, {64 + 8 + 1, 64, false}, {64 + 8 + 1, 64 + 8, true},
		{0, 0, false}, {0, 127, false}, {128, 128, false}, {128, 127, false},
		{7, -1, true}, {-1, 127, true},
	} {
		if got := ballot.Won(c.conf, c.votes); got != c.want {
			t.Errorf("Won(%d, %d): %t", c.conf, c.votes, got)
		}
	}
	for conf := range 128 {
		for votes := range 128 {
			if got := ballot.Won(conf, votes); got != peers.Quorum(conf, votes) {
				t.Errorf("Won(%d, %d): %t", conf, votes, got)
			}
		}
	}
}

// P15.2: what more than half have below commit, at it and above; termAt beside
// term and at it.
func TestCommit(t *testing.T) {
	match := [7]int{5, 3, 4}
	for _, c := range []struct{ conf, commit, term, termAt, want int }{
		{7, 2, 1, 1, 4},
		{7, 3, 1, 1, 4},
		{7, 4, 1, 1, 4},
		{7, 5, 1, 1, 5},
		{7, 9, 1, 1, 9},
		{7, 2, 2, 1, 2},
		{7, 3, 2, 1, 3},
		{7, 2, 1, 2, 2},
		{7, 4, 2, 1, 4},
		{7, 5, 2, 1, 5},
		{7, 0, top, top, 4},
		{7, 0, top, top - 1, 0},
		{7, 0, 0, 0, 4},
		{3, 2, 1, 1, 3},
		{1, 2, 1, 1, 5},
		{1, 5, 1, 1, 5},
		{127, 0, 1, 1, 0},
		{0, 2, 1, 1, 2},
		{0, 0, 1, 1, 0},
		{0, -3, 1, 1, 0},
		{7, least, 1, 1, 4},
		{7, least, 1, 2, least},
		{7, greatest, 1, 1, greatest},
		{7, 2, least, least, 4},
		{7, 2, least, greatest, 2},
	} {
		if got := ballot.Commit(c.conf, match, c.commit, c.term, c.termAt); got != c.want {
			t.Errorf("Commit(%d, %v, %d, %d, %d): %d, not %d", c.conf, match, c.commit, c.term, c.termAt, got, c.want)
		}
	}
}

// P15.2, P15.4: it never falls, is peers.Match or what it was, and rises only
// where the term is the same; of any members and any numbers.
func TestCommitNeverFalls(t *testing.T) {
	r := rand.New(rand.NewSource(15))
	rose := 0
	for range 40000 {
		var match [7]int
		for i := range match {
			match[i] = r.Intn(9) - 1
		}
		conf, commit, term, termAt := r.Intn(130)-1, r.Intn(9)-1, r.Intn(3), r.Intn(3)
		want := commit
		if most := peers.Match(conf, match); most > commit && term == termAt {
			want = most
			rose++
		}
		kept := match
		got := ballot.Commit(conf, match, commit, term, termAt)
		if got != want || got < commit || match != kept {
			t.Fatalf("Commit(%d, %v, %d, %d, %d): %d, not %d", conf, match, commit, term, termAt, got, want)
		}
	}
	if rose < 1000 {
		t.Errorf("it rose %d times", rose)
	}
}

// P15.2: each of the three at 0, 1 and 2^31; a hint below match, and one behind
// next.
func TestBack(t *testing.T) {
	for _, c := range []struct{ next, match, hint, want int }{
		{9, 2, 5, 6},
		{9, 2, 7, 8},
		{9, 2, 8, 8},
		{9, 2, 9, 8},
		{4, 2, 9, 3},
		{9, 2, 2, 3},
		{9, 2, 1, 3},
		{9, 2, 0, 3},
		{9, 0, 0, 1},
		{9, 0, 1, 2},
		{9, 8, 3, 9},
		{9, 9, 3, 10},
		{2, 0, 5, 1},
		{1, 0, 0, 1},
		{1, 0, 5, 1},
		{0, 0, 0, 1},
		{0, 0, 1, 1},
		{0, 1, 0, 2},
		{1, 1, 1, 2},
		{0, 0, top, 1},
		{top, 0, 0, 1},
		{top, 0, 1, 2},
		{top, 1, 0, 2},
		{top, 0, top - 3, top - 2},
		{top, 0, top - 2, top - 1},
		{top, 0, top - 1, top - 1},
		{top, 0, top, top - 1},
		{0, top, 0, top + 1},
		{1, top, 1, top + 1},
		{top, top, top, top + 1},
		{top, top - 1, top, top},
		{top, top - 2, top, top - 1},
	} {
		if got := ballot.Back(c.next, c.match, c.hint); got != c.want {
			t.Errorf("Back(%d, %d, %d): %d, not %d", c.next, c.match, c.hint, got, c.want)
		}
	}
}

// P15.2: of numbers below 0 and above 2^31 as of 0 and of 2^31; at least 1, and
// above match.
func TestBackBounded(t *testing.T) {
	bounded := func(n int) int {
		if n < 0 {
			return 0
		}
		if n > top {
			return top
		}
		return n
	}
	for _, next := range edges {
		for _, match := range edges {
			for _, hint := range edges {
				got := ballot.Back(next, match, hint)
				if want := ballot.Back(bounded(next), bounded(match), bounded(hint)); got != want {
					t.Errorf("Back(%d, %d, %d): %d, not %d", next, match, hint, got, want)
				}
				if got < 1 || got <= bounded(match) {
					t.Errorf("Back(%d, %d, %d): %d", next, match, hint, got)
				}
			}
		}
	}
}

// The chapter's examples.
func TestExample(t *testing.T) {
	if !ballot.Fresh(3, 2, 9, 1) || !ballot.Vote(2, 1, true) || ballot.Vote(2, 0, true) {
		t.Error("it is otherwise")
	}
}
