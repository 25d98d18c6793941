package nums_test

import (
	"math"
	"math/big"
	"slices"
	"testing"

	"bailey/api"
	"bailey/nums"
)

const (
	least    = math.MinInt64
	greatest = math.MaxInt64
)

// edges are numbers of which pairs fall on both sides of each end of the range.
func edges() []int {
	l := []int{0, 1, 2, 3, 7, 10, 1 << 31, 1<<31 - 1, 1 << 32, 1<<32 + 1, 3037000499, 3037000500, 1 << 40,
		1 << 61, 1<<61 + 1, 1 << 62, 1<<62 - 1, 1<<62 + 1, greatest/3 + 1, greatest - 2, greatest - 1, greatest}
	for _, n := range slices.Clone(l) {
		l = append(l, -n, -n-1)
	}
	return l
}

// asInt is what a call that is reckoned with care answers of the true result.
func asInt(n *big.Int) (int, api.Errno) {
	if !n.IsInt64() {
		return 0, api.ErrOver
	}
	return int(n.Int64()), api.OK
}

// P1.1: Add, Sub and Mul are held against numbers without a range.
func TestReckoningOfPairs(t *testing.T) {
	calls := []struct {
		name string
		call func(a, b int) (int, api.Errno)
		want func(z, a, b *big.Int) *big.Int
	}{
		{"Add", nums.Add, (*big.Int).Add},
		{"Sub", nums.Sub, (*big.Int).Sub},
		{"Mul", nums.Mul, (*big.Int).Mul},
	}
	for _, c := range calls {
		for _, a := range edges() {
			for _, b := range edges() {
				n, e := c.call(a, b)
				want, wantE := asInt(c.want(new(big.Int), big.NewInt(int64(a)), big.NewInt(int64(b))))
				if n != want || e != wantE {
					t.Errorf("%s(%d, %d) = %d, %d; want %d, %d", c.name, a, b, n, e, want, wantE)
				}
			}
		}
	}
}

// P1.1: the ends of the range, written out.
func TestEndsOfTheRange(t *testing.T) {
	rows := []struct {
		name string
		call func(a, b int) (int, api.Errno)
		a, b int
		n    int
		e    api.Errno
	}{
		{"Add", nums.Add, greatest, 0, greatest, api.OK},
		{"Add", nums.Add, greatest, 1, 0, api.ErrOver},
		{"Add", nums.Add, greatest, least, -1, api.OK},
		{"Add", nums.Add, least, 0, least, api.OK},
		{"Add", nums.Add, least, -1, 0, api.ErrOver},
		{"Sub", nums.Sub, greatest, -1, 0, api.ErrOver},
		{"Sub", nums.Sub, least, 1, 0, api.ErrOver},
		{"Sub", nums.Sub, 0, least, 0, api.ErrOver},
		{"Sub", nums.Sub, -1, least, greatest, api.OK},
		{"Sub", nums.Sub, least, least, 0, api.OK},
		{"Mul", nums.Mul, least, -1, 0, api.ErrOver},
		{"Mul", nums.Mul, -1, least, 0, api.ErrOver},
		{"Mul", nums.Mul, least, 1, least, api.OK},
		{"Mul", nums.Mul, -1 << 62, 2, least, api.OK},
		{"Mul", nums.Mul, 1 << 62, 2, 0, api.ErrOver},
		{"Mul", nums.Mul, greatest, -1, -greatest, api.OK},
		{"Mul", nums.Mul, least, 0, 0, api.OK},
		{"Mul", nums.Mul, 0, least, 0, api.OK},
	}
	for _, r := range rows {
		if n, e := r.call(r.a, r.b); n != r.n || e != r.e {
			t.Errorf("%s(%d, %d) = %d, %d; want %d, %d", r.name, r.a, r.b, n, e, r.n, r.e)
		}
	}
}

// P1.1: both ends belong to what Within says yes of.
func TestWithin(t *testing.T) {
	rows := []struct {
		n, low, high int
		want         bool
	}{
		{3, 3, 5, true}, {4, 3, 5, true}, {5, 3, 5, true}, {2, 3, 5, false}, {6, 3, 5, false},
		{3, 3, 3, true}, {4, 5, 3, false}, {-1, 0, greatest, false},
		{least, least, greatest, true}, {greatest, least, greatest, true},
		{greatest, least, greatest - 1, false}, {least, least + 1, greatest, false},
	}
	for _, r := range rows {
		if got := nums.Within(r.n, r.low, r.high); got != r.want {
			t.Errorf("Within(%d, %d, %d) = %t", r.n, r.low, r.high, got)
		}
	}
}

// P1.1: sums, of as many numbers as there are.
func TestSum(t *testing.T) {
	rows := []struct {
		most int
		l    []int
		n    int
		e    api.Errno
	}{
		{5, []int{2, 3}, 5, api.OK},
		{5, []int{3, 3}, 0, api.ErrOver},
		{5, []int{5}, 5, api.OK},
		{5, []int{6}, 0, api.ErrOver},
		{5, []int{1, 1, 1, 1, 1}, 5, api.OK},
		{5, []int{1, 1, 1, 1, 1, 1}, 0, api.ErrOver},
		{5, nil, 0, api.OK},
		{5, []int{}, 0, api.OK},
		{-1, nil, 0, api.OK},
		{least, nil, 0, api.OK},
		{-1, []int{0}, 0, api.ErrOver},
		{0, []int{0, 0}, 0, api.OK},
		{5, []int{-1}, 0, api.ErrOver},
		{5, []int{3, -1}, 0, api.ErrOver},
		{5, []int{3, -1, 1}, 0, api.ErrOver},
		{5, []int{6, -1}, 0, api.ErrOver},
		{5, []int{least}, 0, api.ErrOver},
		{greatest, []int{greatest}, greatest, api.OK},
		{greatest, []int{greatest, 0}, greatest, api.OK},
		{greatest, []int{greatest, 1}, 0, api.ErrOver},
		{greatest, []int{1, greatest}, 0, api.ErrOver},
		{greatest, []int{greatest, greatest, 2}, 0, api.ErrOver},
		{greatest, []int{1 << 62, 1<<62 - 1}, greatest, api.OK},
		{greatest, []int{1 << 62, 1 << 62}, 0, api.ErrOver},
	}
	for _, r := range rows {
		if n, e := nums.Sum(r.most, r.l...); n != r.n || e != r.e {
			t.Errorf("Sum(%d, %v) = %d, %d; want %d, %d", r.most, r.l, n, e, r.n, r.e)
		}
	}
}

// Rule R3: a list that is handed in stays as it was.
func TestSumLeavesItsList(t *testing.T) {
	l := []int{1, 2, 3}
	nums.Sum(10, l...)
	nums.Sum(1, l...)
	if !slices.Equal(l, []int{1, 2, 3}) {
		t.Error(l)
	}
}

// orders are all orders of l.
func orders(l []int) [][]int {
	if len(l) == 0 {
		return [][]int{nil}
	}
	var out [][]int
	for i := range l {
		rest := slices.Delete(slices.Clone(l), i, i+1)
		for _, o := range orders(rest) {
			out = append(out, append([]int{l[i]}, o...))
		}
	}
	return out
}

// P1.3: what is answered with OK is answered in each order, and so is what is not.
func TestSumInEachOrder(t *testing.T) {
	lists := [][]int{{1, 2, 3, 4}, {0, 5, 0, 5}, {9, 1, 0}, {greatest, 0, 0}, {greatest - 3, 1, 2}, {1 << 62, 1 << 61, 1 << 61}, {3, -1, 2}, {1 << 62, 1<<62 - 1, 0}}
	for _, l := range lists {
		for _, most := range []int{-1, 0, 9, 10, 11, greatest} {
			want, wantE := nums.Sum(most, l...)
			for _, o := range orders(l) {
				if n, e := nums.Sum(most, o...); n != want || e != wantE {
					t.Errorf("Sum(%d, %v) = %d, %d; of %v: %d, %d", most, o, n, e, l, want, wantE)
				}
			}
		}
	}
}

// sets are numbers as sets: of elements alone, and with the bits above, which are in no set.
func sets() []int {
	l := []int{0, 1, 2, 9, 0x55, 1 << 60, 1 << 61, 1<<61 | 1, 1<<62 - 1, 1 << 62, 1<<62 | 1, greatest, least, least | 1, -1, -2, -1 << 61}
	return append(l, 0x2aaaaaaaaaaaaaaa, 0x1555555555555555)
}

// members are numbers that may be asked for: 0 to 61, those beside them, and some far off.
func members() []int {
	l := []int{least, least + 1, -1 << 32, -64, -2, -1, 62, 63, 64, 65, 127, 128, 1 << 32, 1<<32 + 1, greatest}
	for i := range 62 {
		l = append(l, i)
	}
	return l
}

// bitIn says bit by bit, by halves, whether i is in the set.
func bitIn(set, i int) bool {
	if i < 0 || i > 61 {
		return false
	}
	n := uint64(set)
	for range i {
		n /= 2
	}
	return n%2 == 1
}

// P1.2: Has, With, Without and Bits, for all elements and those beside them.
func TestSets(t *testing.T) {
	for _, set := range sets() {
		count := 0
		for _, i := range members() {
			if bitIn(set, i) {
				count++
			}
			if nums.Has(set, i) != bitIn(set, i) {
				t.Errorf("Has(%x, %d) = %t", set, i, nums.Has(set, i))
			}
			if i < 0 || i > 61 {
				if nums.With(set, i) != set || nums.Without(set, i) != set {
					t.Errorf("With, Without(%x, %d) = %x, %x", set, i, nums.With(set, i), nums.Without(set, i))
				}
			}
		}
		if nums.Bits(set) != count {
			t.Errorf("Bits(%x) = %d, want %d", set, nums.Bits(set), count)
		}
	}
}

// P1.2: the numbers themselves.
func TestSetsAsNumbers(t *testing.T) {
	rows := []struct{ got, want int }{
		{nums.With(0, 3), 8}, {nums.With(1, 3), 9}, {nums.With(9, 3), 9}, {nums.With(0, 0), 1},
		{nums.With(0, 61), 1 << 61}, {nums.With(0, 62), 0}, {nums.With(0, 63), 0}, {nums.With(5, -1), 5},
		{nums.Without(9, 3), 1}, {nums.Without(9, 2), 9}, {nums.Without(1<<61, 61), 0},
		{nums.Without(1<<62, 62), 1 << 62}, {nums.Without(-1, 63), -1}, {nums.Without(-1, 0), -2},
		{nums.Bits(0), 0}, {nums.Bits(8 + 1), 2}, {nums.Bits(1<<62 - 1), 62}, {nums.Bits(-1), 62},
		{nums.Bits(1 << 61), 1}, {nums.Bits(1 << 62), 0}, {nums.Bits(least), 0}, {nums.Bits(greatest), 62},
	}
	for k, r := range rows {
		if r.got != r.want {
			t.Errorf("row %d: %d, want %d", k, r.got, r.want)
		}
	}
}

// P1.4: With and Without change the one element, and Bits counts it.
func TestSetsChangeOneElement(t *testing.T) {
	for _, set := range sets() {
		for i := range 62 {
			with, without := nums.With(set, i), nums.Without(set, i)
			if !nums.Has(with, i) || nums.Has(without, i) {
				t.Errorf("Has of With, Without(%x, %d)", set, i)
			}
			for _, j := range members() {
				if j != i && (nums.Has(with, j) != nums.Has(set, j) || nums.Has(without, j) != nums.Has(set, j)) {
					t.Errorf("With, Without(%x, %d) changed %d", set, i, j)
				}
			}
			more := 1
			if nums.Has(set, i) {
				more = 0
			}
			if nums.Bits(with) != nums.Bits(set)+more || nums.Bits(without) != nums.Bits(with)-1 {
				t.Errorf("Bits of With, Without(%x, %d)", set, i)
			}
			if uint64(with^set)>>62 != 0 || uint64(without^set)>>62 != 0 {
				t.Errorf("With, Without(%x, %d) changed the bits above", set, i)
			}
		}
	}
}
