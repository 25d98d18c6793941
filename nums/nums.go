// Package nums is layer 1: whole numbers that are reckoned with care. A result
// that its range can't hold is an error, never a number that wrapped round.
package nums

import (
	"math"
	"math/bits"

	"bailey/api"
)

// The elements of a set are 0 to top; the two bits above stay free, so that a
// set of elements alone is never below 0.
const (
	top      = 61
	elements = 1<<(top+1) - 1
)

// Add is the sum of a and b.
func Add(a, b int) (int, api.Errno) {
	if b > 0 && a > math.MaxInt64-b || b < 0 && a < math.MinInt64-b {
		return 0, api.ErrOver
	}
	return a + b, api.OK
}

// Sub is a less b.
func Sub(a, b int) (int, api.Errno) {
	if b > 0 && a < math.MinInt64+b || b < 0 && a > math.MaxInt64+b {
		return 0, api.ErrOver
	}
	return a - b, api.OK
}

// Mul is the product of a and b.
func Mul(a, b int) (int, api.Errno) {
	if a == 0 || b == 0 {
		return 0, api.OK
	}
	// The lowest number divided by -1 wraps round to itself, so that the
	// division below would not see this one.
	if a == math.MinInt64 && b == -1 {
		return 0, api.ErrOver
	}
	p := a * b
	if p/b != a {
		return 0, api.ErrOver
	}
	return p, api.OK
}

// Within says whether n is at least low, and at most high.
func Within(n, low, high int) bool {
	return low <= n && n <= high
}

// Sum is the sum of all of l, of which none may be below 0; most is the limit
// of each sum on the way.
func Sum(most int, l ...int) (int, api.Errno) {
	sum := 0
	for _, n := range l {
		next, e := Add(sum, n)
		if n < 0 || e != api.OK || next > most {
			return 0, api.ErrOver
		}
		sum = next
	}
	return sum, api.OK
}

// Bits is how many elements are in the set n.
func Bits(n int) int {
	return bits.OnesCount64(uint64(n & elements))
}

// Has says whether i is an element that is in the set.
func Has(bits, i int) bool {
	return bits&element(i) != 0
}

// With is the set with i in it.
func With(bits, i int) int {
	return bits | element(i)
}

// Without is the set with i not in it.
func Without(bits, i int) int {
	return bits &^ element(i)
}

// element is the set of i alone, or the empty one if i is no element: so a
// wrong i neither adds nor takes away, and is never shifted by.
func element(i int) int {
	if !Within(i, 0, top) {
		return 0
	}
	return 1 << i
}
