package adler_test

import (
	"bytes"
	"hash/adler32"
	"math"
	"math/big"
	"testing"

	"bailey/adler"
)

const prime = 65521

// text is n bytes that are not all alike, other ones for each seed.
func text(n, seed int) []byte {
	b := make([]byte, n)
	for i := range b {
		b[i] = byte(i*i*3 + i*seed*17 + seed)
	}
	return b
}

// sums are 32 bits whose halves lie below the prime, on it and above it.
func sums() []uint32 {
	var l []uint32
	halves := []uint32{0, 1, 2, 255, 256, 32768, prime - 2, prime - 1, prime, prime + 1, prime + 13, 65535}
	for _, high := range halves {
		for _, low := range halves {
			l = append(l, high<<16|low)
		}
	}
	return append(l, adler.Sum([]byte("Wikipedia")), adler32.Checksum(text(1000, 5)))
}

// counts are numbers of bytes, the ones that may not be among them.
func counts() []int {
	return []int{math.MinInt, math.MinInt + 1, -prime - 1, -prime, -256, -1, 0, 1, 2, 255, 4096, prime - 1, prime, prime + 1,
		1 << 31, 1<<31 - 1, 1<<32 + 1, 1 << 47, 1 << 48, 1 << 55, 1 << 62, math.MaxInt - 1, math.MaxInt}
}

// number is a number without a range.
func number(n int) *big.Int { return big.NewInt(int64(n)) }

func plus(l ...*big.Int) *big.Int {
	sum := new(big.Int)
	for _, n := range l {
		sum.Add(sum, n)
	}
	return sum
}

func times(a, b *big.Int) *big.Int { return new(big.Int).Mul(a, b) }

// whole is high times 65536, and low; both modulo the prime, not below 0.
func whole(low, high *big.Int) uint32 {
	low.Mod(low, number(prime))
	high.Mod(high, number(prime))
	return uint32(plus(times(high, number(65536)), low).Uint64())
}

func halves(s uint32) (low, high *big.Int) {
	return number(int(s % 65536 % prime)), number(int(s / 65536 % prime))
}

// P5.1: sums that everybody knows.
func TestSumOfKnownTexts(t *testing.T) {
	known := map[string]uint32{"": 1, "a": 0x00620062, "abc": 0x024d0127, "Wikipedia": 0x11e60398, "\x00": 0x00010001, "\xff": 0x01000100}
	for s, want := range known {
		if got := adler.Sum([]byte(s)); got != want {
			t.Errorf("Sum(%q) = %08x, want %08x", s, got, want)
		}
	}
	if adler.Sum(nil) != adler.Sum([]byte{}) {
		t.Error("no list and an empty one have unlike sums")
	}
}

// P5.1: texts of all lengths, and such as bring both halves round many times.
func TestSum(t *testing.T) {
	for n := range 700 {
		if got, want := adler.Sum(text(n, n)), adler32.Checksum(text(n, n)); got != want {
			t.Errorf("Sum of %d bytes = %08x, want %08x", n, got, want)
		}
	}
	for _, n := range []int{256, 257, 258, 5551, 5552, 5553, 65520, 65521, 65522, 1 << 18} {
		for _, b := range [][]byte{text(n, 1), bytes.Repeat([]byte{0xff}, n), make([]byte, n)} {
			if got, want := adler.Sum(b), adler32.Checksum(b); got != want {
				t.Errorf("Sum of %d bytes like %d = %08x, want %08x", n, b[0], got, want)
			}
		}
	}
}

// P5.1: More goes on from any 32 bits, of which each half is taken modulo 65521.
func TestMoreOfAnySum(t *testing.T) {
	texts := [][]byte{nil, {}, {0}, {1}, {14}, {15}, {255}, {0, 0, 0}, {255, 255}, text(300, 2), bytes.Repeat([]byte{0xff}, 6000)}
	for _, s := range sums() {
		for _, b := range texts {
			low, high := halves(s)
			for _, x := range b {
				low.Mod(plus(low, number(int(x))), number(prime))
				high.Mod(plus(high, low), number(prime))
			}
			if got, want := adler.More(s, b), whole(low, high); got != want {
				t.Errorf("More(%08x, %d bytes) = %08x, want %08x", s, len(b), got, want)
			}
		}
	}
	for s, want := range map[uint32]uint32{math.MaxUint32: 0x000e000e, 0xfff1fff1: 0, 0xfff0fff0: 0xfff0fff0, 0xfff20001: 0x00010001, 0x0001fff2: 0x00010001} {
		if got := adler.More(s, nil); got != want {
			t.Errorf("More(%08x, nil) = %08x, want %08x", s, got, want)
		}
	}
}

// P5.1: a text in two parts.
func TestMoreInParts(t *testing.T) {
	b := text(600, 3)
	for cut := range len(b) + 1 {
		if got := adler.More(adler.Sum(b[:cut]), b[cut:]); got != adler.Sum(b) {
			t.Errorf("cut behind %d: %08x", cut, got)
		}
	}
}

// P5.1, rule R3: the bytes stay, and those in the room behind them.
func TestBytesStay(t *testing.T) {
	room := text(200, 4)
	adler.Sum(room[:70])
	adler.More(9, room[:70])
	if !bytes.Equal(room, text(200, 4)) {
		t.Error("bytes were changed")
	}
}

// P5.2: Join of any two sums, of any number of bytes.
func TestJoinOfAnySums(t *testing.T) {
	for _, a := range sums() {
		for _, b := range sums() {
			for _, n := range counts() {
				lowA, highA := halves(a)
				lowB, highB := halves(b)
				low := plus(lowA, lowB, number(-1))
				high := plus(highA, highB, times(number(max(n, 0)), plus(lowA, number(-1))))
				if got, want := adler.Join(a, b, n), whole(low, high); got != want {
					t.Fatalf("Join(%08x, %08x, %d) = %08x, want %08x", a, b, n, got, want)
				}
			}
		}
	}
}

// P5.2: the edges, written out.
func TestJoinEdges(t *testing.T) {
	rows := []struct {
		a, b uint32
		n    int
		want uint32
	}{
		{1, 1, 0, 1},
		{1, 1, math.MaxInt, 1},
		{0, 0, 0, 0x0000fff0},
		{0, 0, 1, 0xfff0fff0},
		{0, 0, -1, 0x0000fff0},
		{2, 1, 5, 0x00050002},
		{2, 1, -5, 2},
		{2, 1, math.MinInt, 2},
		{2, 1, prime, 2},
		{2, 1, prime + 3, 0x00030002},
		{math.MaxUint32, math.MaxUint32, 0, 0x001c001b},
	}
	for _, r := range rows {
		if got := adler.Join(r.a, r.b, r.n); got != r.want {
			t.Errorf("Join(%08x, %08x, %d) = %08x, want %08x", r.a, r.b, r.n, got, r.want)
		}
	}
}

// P5.3: Roll of any sum, of any number of bytes.
func TestRollOfAnySum(t *testing.T) {
	ends := []byte{0, 1, 2, 127, 128, 254, 255}
	for _, s := range sums() {
		for _, n := range counts() {
			for _, out := range ends {
				for _, in := range ends {
					sLow, sHigh := halves(s)
					low := plus(sLow, number(-int(out)), number(int(in)))
					low.Mod(low, number(prime))
					high := plus(sHigh, times(number(max(n, 0)), number(-int(out))), low, number(-1))
					if got, want := adler.Roll(s, n, out, in), whole(low, high); got != want {
						t.Fatalf("Roll(%08x, %d, %d, %d) = %08x, want %08x", s, n, out, in, got, want)
					}
				}
			}
		}
	}
}

// P5.3: the edges, written out.
func TestRollEdges(t *testing.T) {
	rows := []struct {
		s       uint32
		n       int
		out, in byte
		want    uint32
	}{
		{1, 0, 0, 0, 1},
		{0, 0, 0, 0, 0xfff00000},
		{0, 0, 1, 0, 0xffeffff0},
		{1, 1, 1, 0, 0xffef0000},
		{1, -1, 1, 0, 0xfff00000},
		{1, math.MinInt, 255, 255, 1},
		{1, prime, 255, 255, 1},
		{1, prime + 1, 255, 255, 0xfef20001},
		{math.MaxUint32, 0, 0, 0, 0x001b000e},
		{0xfff0, 0, 0, 255, 0x00fd00fe},
	}
	for _, r := range rows {
		if got := adler.Roll(r.s, r.n, r.out, r.in); got != r.want {
			t.Errorf("Roll(%08x, %d, %d, %d) = %08x, want %08x", r.s, r.n, r.out, r.in, got, r.want)
		}
	}
}

// P5.4: the sums of two texts, joined.
func TestJoinOfTexts(t *testing.T) {
	lengths := []int{0, 1, 2, 9, 255, 256, 257, 5552, 65520, 65521, 65522, 70000}
	for _, m := range lengths {
		for _, n := range lengths {
			a, b := text(m, 6), text(n, 7)
			got := adler.Join(adler.Sum(a), adler.Sum(b), n)
			if want := adler32.Checksum(append(a, b...)); got != want {
				t.Errorf("%d bytes and %d: %08x, want %08x", m, n, got, want)
			}
		}
	}
}

// P5.5: a window of n bytes goes over a text.
func TestRollOverTexts(t *testing.T) {
	for _, n := range []int{1, 2, 3, 16, 255, 256, 257, 4096, 65521, 65522} {
		b := append(text(n, 8), bytes.Repeat([]byte{0xff, 0, 0xfe}, 60)...)
		s := adler.Sum(b[:n])
		for i := range len(b) - n {
			s = adler.Roll(s, n, b[i], b[i+n])
			if want := adler32.Checksum(b[i+1 : i+1+n]); s != want {
				t.Fatalf("%d bytes from %d on: %08x, want %08x", n, i+1, s, want)
			}
		}
	}
}

// P5.1, P5.4, P5.5, rule R4: any texts.
func FuzzTexts(f *testing.F) {
	f.Add([]byte("Wiki"), []byte("pedia"))
	f.Add([]byte{}, []byte{0xff})
	f.Fuzz(func(t *testing.T, a, b []byte) {
		both := bytes.Join([][]byte{a, b}, nil)
		want := adler32.Checksum(both)
		if adler.Sum(both) != want || adler.More(adler.Sum(a), b) != want || adler.Join(adler.Sum(a), adler.Sum(b), len(b)) != want {
			t.Errorf("%q, %q: not %08x", a, b, want)
		}
		if len(a) == 0 || len(b) == 0 {
			return
		}
		rolled := append(bytes.Clone(a[1:]), b[0])
		if adler.Roll(adler.Sum(a), len(a), a[0], b[0]) != adler.Sum(rolled) {
			t.Errorf("%q rolled on to %q", a, rolled)
		}
	})
}
