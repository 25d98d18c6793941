package sha_test

import (
	"bytes"
	"crypto/sha256"
	"encoding/hex"
	"math"
	"math/big"
	"math/bits"
	"testing"

	"bailey/sha"
)

// text is n bytes that are not all alike.
func text(n int) []byte {
	b := make([]byte, n)
	for i := range b {
		b[i] = byte(i*i*7 + i*31 + 11)
	}
	return b
}

func reference(b []byte) string {
	s := sha256.Sum256(b)
	return string(s[:])
}

// lengths lie round all the places where a block, or its pad, ends.
var lengths = []int{0, 1, 2, 3, 4, 31, 32, 33, 53, 54, 55, 56, 57, 62, 63, 64, 65, 66, 118, 119, 120, 121, 126, 127, 128, 129, 183, 184, 191, 192, 193, 256, 1000, 4096}

func primes(n int) []int64 {
	var ps []int64
	for p := int64(2); len(ps) < n; p++ {
		if big.NewInt(p).ProbablyPrime(20) {
			ps = append(ps, p)
		}
	}
	return ps
}

// rootBits are the first 32 bits behind the point of the root of p of that degree.
func rootBits(p int64, degree int) uint32 {
	whole := new(big.Int).Lsh(big.NewInt(p), uint(32*degree))
	low, high := new(big.Int), new(big.Int).Lsh(big.NewInt(p), 32)
	power := func(x *big.Int) *big.Int { return new(big.Int).Exp(x, big.NewInt(int64(degree)), nil) }
	for low.Cmp(high) < 0 {
		mid := new(big.Int).Add(low, high)
		mid.Add(mid, big.NewInt(1)).Rsh(mid, 1)
		if power(mid).Cmp(whole) <= 0 {
			low = mid
		} else {
			high = mid.Sub(mid, big.NewInt(1))
		}
	}
	return uint32(low.Uint64())
}

// modelBlock is Block as P3.1 and P3.2 say it, line by line.
func modelBlock(h [8]uint32, b [64]byte) [8]uint32 {
	r := func(x uint32, n int) uint32 { return bits.RotateLeft32(x, 32-n) }
	var w [64]uint32
	for t := range w {
		if t < 16 {
			w[t] = uint32(b[4*t])<<24 + uint32(b[4*t+1])<<16 + uint32(b[4*t+2])<<8 + uint32(b[4*t+3])
			continue
		}
		x, y := w[t-2], w[t-15]
		w[t] = (r(x, 17) ^ r(x, 19) ^ x>>10) + w[t-7] + (r(y, 7) ^ r(y, 18) ^ y>>3) + w[t-16]
	}
	v := h
	for i, p := range primes(64) {
		var ch, maj uint32
		for n := range 32 {
			bit := func(word int) uint32 { return v[word] >> n & 1 }
			chosen := bit(6)
			if bit(4) == 1 {
				chosen = bit(5)
			}
			ch |= chosen << n
			if bit(0)+bit(1)+bit(2) >= 2 {
				maj |= 1 << n
			}
		}
		x := v[7] + (r(v[4], 6) ^ r(v[4], 11) ^ r(v[4], 25)) + ch + rootBits(p, 3) + w[i]
		y := (r(v[0], 2) ^ r(v[0], 13) ^ r(v[0], 22)) + maj
		v = [8]uint32{x + y, v[0], v[1], v[2], v[3] + x, v[4], v[5], v[6]}
	}
	for i := range h {
		h[i] += v[i]
	}
	return h
}

// P3.1: the starting words are roots of primes, and a call gets words of its own.
func TestStart(t *testing.T) {
	start := sha.Start()
	for i, p := range primes(8) {
		if start[i] != rootBits(p, 2) {
			t.Errorf("word %d is %08x, want %08x", i, start[i], rootBits(p, 2))
		}
	}
	start[0]++
	if sha.Start()[0] != start[0]-1 {
		t.Error("who gets the words changes those of others")
	}
}

// P3.1, P3.2: the words' functions, the constants and how a block goes in.
func TestBlock(t *testing.T) {
	ones := [8]uint32{}
	for i := range ones {
		ones[i] = math.MaxUint32
	}
	var full [64]byte
	for i := range full {
		full[i] = 0xff
	}
	one := func(i int) (b [64]byte) { b[i] = 0x80; return b }
	hashes := [][8]uint32{{}, sha.Start(), ones, {1, 2, 3, 4, 5, 6, 7, 8}}
	blocks := [][64]byte{{}, full, [64]byte(text(64)), one(0), one(3), one(4), one(63)}
	for i, h := range hashes {
		for j, b := range blocks {
			if got, want := sha.Block(h, b), modelBlock(h, b); got != want {
				t.Errorf("block %d behind words %d: %08x, want %08x", j, i, got, want)
			}
		}
	}
}

// P3.3: what stands behind n bytes.
func TestPad(t *testing.T) {
	for _, n := range append([]int{1<<59 - 1, 1<<59 - 9, 1 << 59, 1<<40 + 55, 1<<40 + 56}, lengths...) {
		pad := sha.Pad(n)
		zeros := len(pad) - 9
		if zeros < 0 || zeros > 63 || (n%64+1+zeros)%64 != 56 {
			t.Fatalf("Pad(%d) has %d bytes", n, len(pad))
		}
		want := append([]byte{0x80}, make([]byte, zeros)...)
		for i := 7; i >= 0; i-- {
			want = append(want, byte(uint64(n)*8>>(8*i)))
		}
		if !bytes.Equal(pad, want) {
			t.Errorf("Pad(%d) is %x, want %x", n, pad, want)
		}
	}
	for n, size := range map[int]int{0: 64, 54: 10, 55: 9, 56: 72, 63: 65, 64: 64, 119: 9, 120: 72} {
		if got := len(sha.Pad(n)); got != size {
			t.Errorf("Pad(%d) has %d bytes, want %d", n, got, size)
		}
	}
}

// P3.3: lengths that may not be are taken as the nearest one that may.
func TestPadOutside(t *testing.T) {
	for _, n := range []int{-1, -8, -55, -64, -65, math.MinInt} {
		if !bytes.Equal(sha.Pad(n), sha.Pad(0)) {
			t.Errorf("Pad(%d) is %x", n, sha.Pad(n))
		}
	}
	for _, n := range []int{1<<59 + 1, 1<<59 + 56, 1 << 60, 1 << 61, 1<<62 + 3, math.MaxInt} {
		if !bytes.Equal(sha.Pad(n), sha.Pad(1<<59)) {
			t.Errorf("Pad(%d) is %x", n, sha.Pad(n))
		}
	}
	if want := append([]byte{0x80}, make([]byte, 63)...); !bytes.Equal(sha.Pad(0), want) {
		t.Errorf("Pad(0) is %x", sha.Pad(0))
	}
	if got := hex.EncodeToString(sha.Pad(1 << 59)[56:]); got != "4000000000000000" {
		t.Errorf("Pad(2^59) ends in %s", got)
	}
}

// P3.3: the sum of texts of all lengths, and of those that everybody knows.
func TestSum(t *testing.T) {
	for n := range 300 {
		if got := sha.Sum(text(n)); got != reference(text(n)) {
			t.Errorf("Sum of %d bytes is %x", n, got)
		}
	}
	known := map[string]string{
		"":    "e3b0c44298fc1c149afbf4c8996fb92427ae41e4649b934ca495991b7852b855",
		"abc": "ba7816bf8f01cfea414140de5dae2223b00361a396177a9cb410ff61f20015ad",
		"abcdbcdecdefdefgefghfghighijhijkijkljklmklmnlmnomnopnopq": "248d6a61d20638b8e5c026930c3e6039a33ce45964ff2167f6ecedd419db06c1",
	}
	for b, want := range known {
		if got := hex.EncodeToString([]byte(sha.Sum([]byte(b)))); got != want {
			t.Errorf("Sum(%q) is %s, want %s", b, got, want)
		}
	}
	if sha.Sum(nil) != sha.Sum([]byte{}) {
		t.Error("no list and an empty one have unlike sums")
	}
}

// P3.3: Sum is Block of each 64 bytes of the text and its pad, from Start on.
func TestSumByBlocks(t *testing.T) {
	for _, n := range lengths {
		h, b := sha.Start(), append(text(n), sha.Pad(n)...)
		for ; len(b) > 0; b = b[64:] {
			h = sha.Block(h, [64]byte(b))
		}
		var want []byte
		for _, x := range h {
			want = append(want, byte(x>>24), byte(x>>16), byte(x>>8), byte(x))
		}
		if sha.Sum(text(n)) != string(want) {
			t.Errorf("Sum of %d bytes is %x, want %x", n, sha.Sum(text(n)), want)
		}
	}
}

// P3.4, P3.5: what is written in parts, and asked for in between.
func TestHash(t *testing.T) {
	for _, part := range []int{1, 3, 7, 55, 56, 63, 64, 65, 119, 128, 200} {
		h, all := sha.New(), text(700)
		for at := 0; at < len(all); {
			n := min(part, len(all)-at)
			h.Write(all[at : at+n])
			h.Write(nil)
			at += n
			for range 2 {
				if h.Sum() != reference(all[:at]) || h.Len() != at {
					t.Fatalf("parts of %d bytes, behind %d: %x, %d", part, at, h.Sum(), h.Len())
				}
			}
		}
	}
}

// P3.5: each cut in two has the same sum.
func TestHashCut(t *testing.T) {
	for _, n := range lengths[:29] {
		for cut := range n + 1 {
			h := sha.New()
			h.Write(text(n)[:cut])
			h.Write(text(n)[cut:])
			if h.Sum() != reference(text(n)) || h.Len() != n {
				t.Fatalf("%d bytes cut behind %d: %x, %d", n, cut, h.Sum(), h.Len())
			}
		}
	}
}

// P3.4: nothing was written yet; hashes are apart; what is written is not kept or changed.
func TestHashApart(t *testing.T) {
	a, b := sha.New(), sha.New()
	if a.Sum() != reference(nil) || a.Len() != 0 {
		t.Errorf("nothing written: %x, %d", a.Sum(), a.Len())
	}
	written := text(50)
	a.Write(written)
	if !bytes.Equal(written, text(50)) {
		t.Error("Write changed its bytes")
	}
	clear(written)
	b.Write([]byte("b"))
	a.Write(text(80)[50:])
	if a.Sum() != reference(text(80)) || a.Len() != 80 {
		t.Errorf("kept what was written: %x, %d", a.Sum(), a.Len())
	}
	if b.Sum() != reference([]byte("b")) || b.Len() != 1 {
		t.Errorf("another hash: %x, %d", b.Sum(), b.Len())
	}
}

// P3.4: of a hash that no call made nothing happens.
func TestHashNotMade(t *testing.T) {
	for name, h := range map[string]*sha.Hash{"nil": nil, "zero": new(sha.Hash)} {
		for range 2 {
			if h.Sum() != "" || h.Len() != 0 {
				t.Errorf("%s: %x, %d", name, h.Sum(), h.Len())
			}
			h.Write(text(100))
			h.Write(nil)
		}
	}
}

// P3.3: Sum leaves what it is given as it is, room behind it too.
func TestSumChangesNothing(t *testing.T) {
	room := text(200)
	sha.Sum(room[:70])
	if !bytes.Equal(room, text(200)) {
		t.Error("Sum changed bytes")
	}
}
