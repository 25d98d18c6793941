// Package lists writes, reads, copies and looks at lists, whatever they are of:
// the layers that keep lists lean on it.
package lists

import (
	"slices"

	"bailey/api"
	"bailey/nums"
	"bailey/pack"
)

// Put answers b, how many there are, and the bytes of each.
func Put[T any](b []byte, l []T, code func(T) []byte) []byte {
	out := pack.Num(b, len(l))
	for _, x := range l {
		// Laid onto out itself, each would copy all that stands there.
		out = append(out, code(x)...)
	}
	return out
}

// Numbers answers b and the bytes of each number, as many as there are.
func Numbers(b []byte, l ...int) []byte {
	for _, n := range l {
		b = pack.Num(b, n)
	}
	return b
}

// Read reads at most most of them, each by read; none behind an error.
func Read[T any](r *pack.Reader, most int, read func(*pack.Reader) T) []T {
	var l []T
	for range r.Num(most) {
		l = append(l, read(r))
	}
	if r.Err() != api.OK {
		return nil
	}
	return l
}

// Copy answers l in new memory, each of it made by each, for what a copy of
// the list alone would share.
func Copy[T any](l []T, each func(T) T) []T {
	out := slices.Clone(l)
	for i, x := range out {
		out[i] = each(x)
	}
	return out
}

// Rise tells whether each of l stands above the one ahead of it.
func Rise[T any](l []T, order func(a, b T) int) bool {
	for i := 1; i < len(l); i++ {
		if order(l[i-1], l[i]) >= 0 {
			return false
		}
	}
	return true
}

// Insert answers l in new memory, with x ahead of the first one that is above
// it, or behind all.
func Insert[T any](l []T, x T, above func(T) bool) []T {
	at := slices.IndexFunc(l, above)
	if at < 0 {
		at = len(l)
	}
	return slices.Concat(l[:at], []T{x}, l[at:])
}

// Within tells whether each of the numbers is 0 to most.
func Within(most int, l ...int) bool {
	for _, n := range l {
		if !nums.Within(n, 0, most) {
			return false
		}
	}
	return true
}

// Fit tells whether the numbers together are at most most: those that leave
// the range of an int on the way are not.
func Fit(most int, l ...int) bool {
	sum := 0
	for _, n := range l {
		next, e := nums.Add(sum, n)
		if e != api.OK {
			return false
		}
		sum = next
	}
	return sum <= most
}
