package frame_test

import (
	"bytes"
	"hash/adler32"
	"math/rand"
	"slices"
	"strings"
	"testing"

	"bailey/api"
	"bailey/frame"
	"bailey/pack"
)

// sizes are how many bytes frames hold: those at which the number's bytes get
// more, and the limit.
var sizes = []int{0, 1, 2, 127, 128, 255, 256, 16383, 16384, api.MaxFrame - 1, api.MaxFrame}

// some is n bytes, each unlike its neighbour.
func some(n int) []byte {
	b := make([]byte, n)
	for i := range b {
		b[i] = byte(i*7 + i>>8)
	}
	return b
}

// laid is the frame of b by the library's Adler-32.
func laid(b []byte) []byte {
	out := append(pack.Num(nil, len(b)), b...)
	sum := adler32.Checksum(out)
	return append(out, byte(sum>>24), byte(sum>>16), byte(sum>>8), byte(sum))
}

// seal is b's frame, which there must be.
func seal(t *testing.T, b []byte) []byte {
	t.Helper()
	f, e := frame.Seal(b)
	if e != api.OK {
		t.Fatalf("Seal of %d bytes: %d", len(b), e)
	}
	return f
}

// refuses looks whether Next of b answers that error, and Scan nothing.
func refuses(t *testing.T, what string, b []byte, want api.Errno) {
	t.Helper()
	if held, n, e := frame.Next(b); held != nil || n != 0 || e != want {
		t.Errorf("%s: Next is %d bytes, %d, %d, not %d", what, len(held), n, e, want)
	}
	if held, n := frame.Scan(b); len(held) != 0 || n != 0 {
		t.Errorf("%s: Scan is %d frames, %d bytes", what, len(held), n)
	}
}

// P10.1: the number, the bytes, the sum of both.
func TestSeal(t *testing.T) {
	for _, n := range sizes {
		b := some(n)
		if f := seal(t, b); !bytes.Equal(f, laid(b)) {
			t.Errorf("frame of %d bytes is another one", n)
		}
	}
	if f := seal(t, nil); !bytes.Equal(f, []byte{0, 0, 1, 0, 1}) {
		t.Errorf("frame of nothing: %x", f)
	}
	if f := seal(t, []byte("a")); !bytes.Equal(f, []byte{1, 0x61, 0, 0x65, 0, 0x63}) {
		t.Errorf("frame of a: %x", f)
	}
}

// P10.1: more than MaxFrame bytes.
func TestSealTooLong(t *testing.T) {
	for _, n := range []int{api.MaxFrame + 1, 2 * api.MaxFrame} {
		if f, e := frame.Seal(make([]byte, n)); f != nil || e != api.ErrLong {
			t.Errorf("%d bytes: %d, %d", n, len(f), e)
		}
	}
}

// P10.2: what was sealed is held, whatever stands behind it.
func TestNext(t *testing.T) {
	for _, n := range sizes {
		b := some(n)
		f := seal(t, b)
		for _, behind := range []string{"", "\x00", "\xff\xff", "behind"} {
			held, size, e := frame.Next(append(slices.Clone(f), behind...))
			if !bytes.Equal(held, b) || size != len(f) || e != api.OK {
				t.Errorf("%d bytes, %q behind: %d held, size %d, %d", n, behind, len(held), size, e)
			}
		}
	}
}

// P10.2: bytes that end too early, at each place.
func TestNextShort(t *testing.T) {
	for _, n := range []int{0, 1, 5, 127, 128, 300} {
		f := seal(t, some(n))
		for end := range f {
			refuses(t, "beginning", f[:end], api.ErrShort)
		}
	}
	long := seal(t, some(api.MaxFrame))
	for _, end := range []int{0, 1, 2, 3, 100, api.MaxFrame, len(long) - 5, len(long) - 4, len(long) - 1} {
		refuses(t, "beginning of a long one", long[:end], api.ErrShort)
	}
	refuses(t, "nothing", nil, api.ErrShort)
	refuses(t, "a number's beginning", []byte{0x81, 0x80, 0x80}, api.ErrShort)
}

// P10.2: a number in another form is told whatever stands behind it.
func TestNextForm(t *testing.T) {
	other := []string{
		"\x80",     // an empty highest group
		"\x80\x01", // 1 in two bytes
		"\x80\x80\x01",
		strings.Repeat("\x81", 9),  // more than nine groups
		strings.Repeat("\xff", 12), // and more still
	}
	for _, number := range other {
		refuses(t, "another form", []byte(number), api.ErrForm)
		whole := []byte(number + "a")
		sum := adler32.Checksum(whole)
		whole = append(whole, byte(sum>>24), byte(sum>>16), byte(sum>>8), byte(sum))
		refuses(t, "another form, with a sum", whole, api.ErrForm)
	}
}

// P10.2: a number above MaxFrame is told ahead of bytes that end too early,
// and ahead of a sum.
func TestNextLong(t *testing.T) {
	for _, n := range []int{api.MaxFrame + 1, 2 * api.MaxFrame, 1 << 40, 1<<63 - 1} {
		refuses(t, "number alone", pack.Num(nil, n), api.ErrLong)
		refuses(t, "and a byte", append(pack.Num(nil, n), 1), api.ErrLong)
	}
	refuses(t, "whole, but too long", laid(some(api.MaxFrame+1)), api.ErrLong)
}

// P10.2: each bit of a frame that is changed is told, and most of them as
// another sum; what comes too early first.
func TestNextSum(t *testing.T) {
	for _, text := range []string{"", "a", "hello", strings.Repeat("\xff", 100)} {
		f := seal(t, []byte(text))
		for i := range 8 * len(f) {
			changed := slices.Clone(f)
			changed[i/8] ^= 1 << (i % 8)
			_, _, e := frame.Next(changed)
			if i >= 8 && e != api.ErrSum || e == api.OK {
				t.Errorf("%q with the bit %d changed: %d", text, i, e)
			}
		}
	}
	refuses(t, "another number", []byte{1, 0x62, 0, 0x65, 0, 0x63}, api.ErrSum)
	refuses(t, "the sum backwards", []byte{1, 0x61, 0x63, 0, 0x65, 0}, api.ErrSum)
	refuses(t, "a sum of the bytes alone", []byte{1, 0x61, 0, 0x62, 0, 0x62}, api.ErrSum)
	refuses(t, "zeros", make([]byte, 5), api.ErrSum)
	refuses(t, "a wrong sum that ends too early", []byte{1, 0x61, 9, 9, 9}, api.ErrShort)
}

// P10.3, P10.4: frames one behind the other, and each beginning of them.
func TestScan(t *testing.T) {
	texts := []string{"", "a", "", "hello", string(some(200)), "z"}
	var all []byte
	ends := []int{0}
	for _, text := range texts {
		all = append(all, seal(t, []byte(text))...)
		ends = append(ends, len(all))
	}
	for end := range len(all) + 1 {
		whole := 0
		for whole+1 < len(ends) && ends[whole+1] <= end {
			whole++
		}
		held, n := frame.Scan(all[:end])
		if len(held) != whole || n != ends[whole] {
			t.Fatalf("%d bytes: %d frames, %d bytes; not %d, %d", end, len(held), n, whole, ends[whole])
		}
		for i, b := range held {
			if string(b) != texts[i] {
				t.Fatalf("%d bytes: frame %d is %q", end, i, b)
			}
		}
	}
}

// P10.3: Scan ends at the first frame that is none, even if others follow.
func TestScanEnds(t *testing.T) {
	one, two := seal(t, []byte("one")), seal(t, []byte("two"))
	bad := slices.Clone(one)
	bad[len(bad)-1] ^= 1
	for _, middle := range [][]byte{bad, {0x80, 0x01}, pack.Num(nil, api.MaxFrame+1), {0}} {
		all := slices.Concat(one, two, middle, two)
		held, n := frame.Scan(all)
		if len(held) != 2 || n != len(one)+len(two) || string(held[1]) != "two" {
			t.Errorf("behind %x: %q, %d", middle, held, n)
		}
	}
	if held, n := frame.Scan(nil); len(held) != 0 || n != 0 {
		t.Errorf("nothing: %q, %d", held, n)
	}
	if held, n := frame.Scan(slices.Concat(one, one[:3])); len(held) != 1 || n != 8 {
		t.Errorf("one and a beginning: %q, %d", held, n)
	}
}

// P10.4: as many of the shortest frames as a slot has room for are not too many.
func TestScanMany(t *testing.T) {
	many := api.MaxSlot / 5
	held, n := frame.Scan(bytes.Repeat(seal(t, nil), many))
	if len(held) != many || n != 5*many {
		t.Errorf("%d frames, %d bytes", len(held), n)
	}
}

// Rule R3: nothing that is handed in is changed, or shared with what is
// answered; no two frames of a list share bytes.
func TestNothingShared(t *testing.T) {
	in := append(make([]byte, 0, 40), "abc"...)
	f := seal(t, in)
	f[1] = '!'
	if !bytes.Equal(in[:10], []byte("abc\x00\x00\x00\x00\x00\x00\x00")) {
		t.Errorf("handed in: %q", in[:10])
	}
	all := slices.Concat(seal(t, []byte("abc")), seal(t, []byte("def")))
	was := slices.Clone(all)
	held, _, _ := frame.Next(all)
	held[0] = '!'
	_ = append(held, "??????"...)
	list, _ := frame.Scan(all)
	_ = append(list[0], "??????"...)
	list[0][2] = '!'
	if !bytes.Equal(all, was) || string(list[1]) != "def" {
		t.Errorf("%q became %q; %q", was, all, list[1])
	}
}

// P10.2: whatever the bytes: what Next takes is the frame of what it answers.
func FuzzNext(f *testing.F) {
	r := rand.New(rand.NewSource(1))
	for range 50 {
		b := make([]byte, r.Intn(20))
		r.Read(b)
		f.Add(b)
		f.Add(laid(b))
	}
	f.Fuzz(func(t *testing.T, b []byte) {
		held, n, e := frame.Next(b)
		if e != api.OK {
			if held != nil || n != 0 || e != api.ErrShort && e != api.ErrForm && e != api.ErrLong && e != api.ErrSum {
				t.Fatalf("%x: %x, %d, %d", b, held, n, e)
			}
			return
		}
		if !bytes.Equal(laid(held), b[:n]) {
			t.Fatalf("%x: %x, %d", b, held, n)
		}
		list, all := frame.Scan(b)
		if len(list) == 0 || !bytes.Equal(list[0], held) || all < n || all > len(b) {
			t.Fatalf("%x: Scan %d, %d", b, len(list), all)
		}
	})
}
