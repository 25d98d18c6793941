package hmac_test

import (
	"bytes"
	stdhmac "crypto/hmac"
	"crypto/sha256"
	"encoding/hex"
	"math"
	"strings"
	"testing"

	"bailey/hmac"
)

func text(n int) []byte {
	b := make([]byte, n)
	for i := range b {
		b[i] = byte(i*i*5 + i*29 + 3)
	}
	return b
}

func reference(key string, text []byte) string {
	h := stdhmac.New(sha256.New, []byte(key))
	h.Write(text)
	return string(h.Sum(nil))
}

// P4.1: tags under keys of all lengths.
func TestTag(t *testing.T) {
	for _, k := range []int{0, 1, 3, 31, 32, 33, 62, 63, 64, 65, 66, 127, 128, 129, 300} {
		for _, n := range []int{0, 1, 55, 56, 63, 64, 65, 119, 120, 500} {
			key := string(text(k))
			if got, want := hmac.Tag(key, text(n)), reference(key, text(n)); got != want {
				t.Errorf("a key of %d bytes, a text of %d: %x, want %x", k, n, got, want)
			}
		}
	}
}

// P4.1: tags that RFC 4231 and the chapter give.
func TestTagKnown(t *testing.T) {
	cases := []struct{ key, text, tag string }{
		{"key", "The quick brown fox jumps over the lazy dog", "f7bc83f430538424b13298e6aa6fb143ef4d59a14946175997479dbc2d1a3cd8"},
		{strings.Repeat("\x0b", 20), "Hi There", "b0344c61d8db38535ca8afceaf0bf12b881dc200c9833da726e9376c2e32cff7"},
		{"Jefe", "what do ya want for nothing?", "5bdcc146bf60754e6a042426089575c75a003f089d2739839dec58b964ec3843"},
		{strings.Repeat("\xaa", 131), "Test Using Larger Than Block-Size Key - Hash Key First", "60e431591ee0b67f0d8a26aacbf5b77f8e0bc6213728c5140546040f0ee37f54"},
	}
	for _, c := range cases {
		if got := hex.EncodeToString([]byte(hmac.Tag(c.key, []byte(c.text)))); got != c.tag {
			t.Errorf("Tag(%q, %q) is %s, want %s", c.key, c.text, got, c.tag)
		}
	}
	if hmac.Tag("k", nil) != hmac.Tag("k", []byte{}) {
		t.Error("no list and an empty one have unlike tags")
	}
}

// P4.1: a tag changes nothing of its text, nor of the room behind it.
func TestTagChangesNothing(t *testing.T) {
	room := text(200)
	hmac.Tag("key", room[:70])
	hmac.Open("key", room[:70], "tag")
	if !bytes.Equal(room, text(200)) {
		t.Error("Tag changed bytes")
	}
}

// P4.1: the same bytes, and as many.
func TestEqual(t *testing.T) {
	cases := []struct {
		a, b string
		want bool
	}{
		{"", "", true}, {"a", "a", true}, {"abc", "abc", true}, {"\x00", "\x00", true},
		{"", "a", false}, {"a", "", false}, {"", "\x00", false}, {"\x00", "", false},
		{"a", "b", false}, {"abc", "abd", false}, {"abc", "xbc", false}, {"abc", "axc", false},
		{"abc", "ab", false}, {"ab", "abc", false}, {"ab", "ab\x00", false}, {"ab\x00", "ab", false},
		{"\x01", "\x81", false}, {"\x00\x01", "\x01\x00", false}, {"aa", "bb", false},
		{strings.Repeat("a", 256), "", false}, {strings.Repeat("\x00", 256), "", false}, {"", strings.Repeat("\x00", 256), false},
		{strings.Repeat("\x00", 512), strings.Repeat("\x00", 256), false},
	}
	for _, c := range cases {
		if hmac.Equal(c.a, c.b) != c.want {
			t.Errorf("Equal(%q, %q) is %v", c.a, c.b, !c.want)
		}
	}
}

// P4.1: each single bit counts.
func TestEqualBits(t *testing.T) {
	a := string(text(33))
	for i := range len(a) * 8 {
		b := []byte(a)
		b[i/8] ^= 1 << (i % 8)
		if hmac.Equal(a, string(b)) || hmac.Equal(string(b), a) {
			t.Errorf("bit %d does not count", i)
		}
	}
}

// P4.2: the text of which a key is derived.
func TestDerive(t *testing.T) {
	cases := []struct {
		n    int
		tail string
	}{
		{0, "0000000000000000"}, {1, "0000000000000001"}, {255, "00000000000000ff"}, {256, "0000000000000100"},
		{0x0102030405060708, "0102030405060708"}, {math.MaxInt, "7fffffffffffffff"},
		{-1, "ffffffffffffffff"}, {-2, "fffffffffffffffe"}, {-256, "ffffffffffffff00"}, {math.MinInt, "8000000000000000"},
	}
	for _, key := range []string{"", "k", string(text(63)), string(text(64)), string(text(65))} {
		for _, purpose := range []string{"", "lane", "a\x00b", string(text(100))} {
			for _, c := range cases {
				tail, err := hex.DecodeString(c.tail)
				if err != nil {
					t.Fatal(err)
				}
				want := reference(key, append([]byte(purpose+"\x00"), tail...))
				if got := hmac.Derive(key, purpose, c.n); got != want {
					t.Errorf("Derive(%q, %q, %d) is %x, want %x", key, purpose, c.n, got, want)
				}
			}
		}
	}
}

// P4.1, P4.3: Open says yes of the tag, and of no other one.
func TestOpen(t *testing.T) {
	for _, k := range []int{0, 5, 63, 64, 65} {
		key, b := string(text(k)), text(40)
		tag := hmac.Tag(key, b)
		if !hmac.Open(key, b, tag) {
			t.Fatalf("a key of %d bytes: no", k)
		}
		for i := range 8 * len(tag) {
			turned := []byte(tag)
			turned[i/8] ^= 1 << (i % 8)
			if hmac.Open(key, b, string(turned)) {
				t.Errorf("bit %d of the tag turned: yes", i)
			}
		}
		for n := range tag {
			if hmac.Open(key, b, tag[:n]) || hmac.Open(key, b, tag[n+1:]) {
				t.Errorf("%d bytes of the tag: yes", n)
			}
		}
		for _, tail := range []string{"\x00", "a", tag} {
			if hmac.Open(key, b, tag+tail) || hmac.Open(key, b, tail+tag) {
				t.Errorf("the tag and %q: yes", tail)
			}
		}
	}
	tag := hmac.Tag("key", []byte("text"))
	if hmac.Open("kez", []byte("text"), tag) || hmac.Open("key", []byte("texu"), tag) || hmac.Open("key", nil, tag) || hmac.Open("", nil, "") {
		t.Error("another key or text: yes")
	}
}

// P4.4: bytes 0 behind a key change nothing up to 64 bytes, and change the tag beyond.
func TestKeyZeros(t *testing.T) {
	for _, k := range []int{0, 1, 32, 63, 64} {
		key := string(text(k))
		want := hmac.Tag(key, text(9))
		for n := range 65 - k {
			if hmac.Tag(key+strings.Repeat("\x00", n), text(9)) != want {
				t.Errorf("a key of %d bytes and %d bytes 0: another tag", k, n)
			}
		}
		if hmac.Tag(key+strings.Repeat("\x00", 65-k), text(9)) == want {
			t.Errorf("a key of %d bytes, filled up to 65: the same tag", k)
		}
	}
}
