package keyring_test

import (
	"bytes"
	"encoding/hex"
	"math"
	"strings"
	"sync"
	"testing"

	"bailey/api"
	"bailey/hmac"
	"bailey/keyring"
	"bailey/pack"
)

const (
	least    = math.MinInt
	greatest = math.MaxInt
)

// kinds are the three keys of a lane, by their purposes.
var kinds = []struct {
	purpose string
	key     func(r *keyring.Ring, lane int) (string, api.Errno)
}{
	{"token", (*keyring.Ring).Token},
	{"put", (*keyring.Ring).Put},
	{"get", (*keyring.Ring).Get},
}

// masters are keys of all lengths, with bytes that stand for nothing else too.
var masters = []string{"", "m", "\x00", "master", strings.Repeat("k", 64), strings.Repeat("k", 65), "\xff\x00\x80"}

// P7.1: keys that were reckoned elsewhere.
func TestKnownKeys(t *testing.T) {
	known := map[string]string{
		"token": "725a656bd744f0798bc9c5f7d46613aa8ca16d61f5a884c29eac39115f92c602",
		"put":   "82c974837df8c361570da9e534e9efc084d6e00d2bd9fdbd61eab09b00d24570",
		"get":   "05db48a54de31601a0a9c7558af7de626bdee87ba8bb76d735f8991e8e76831b",
	}
	for _, k := range kinds {
		key, e := k.key(keyring.New("m"), 3)
		if got := hex.EncodeToString([]byte(key)); got != known[k.purpose] || e != api.OK {
			t.Errorf("%s of lane 3: %s, %d", k.purpose, got, e)
		}
	}
}

// P7.1: the keys of all lanes, each asked of a new ring.
func TestKeysAreDerived(t *testing.T) {
	for _, master := range masters {
		for _, k := range kinds {
			for lane := range 5 {
				r := keyring.New(master)
				key, e := k.key(r, lane)
				if key != hmac.Derive(master, k.purpose, lane) || e != api.OK || r.Made() != 1 {
					t.Errorf("%s of lane %d and %q: %x, %d; made %d", k.purpose, lane, master, key, e, r.Made())
				}
			}
		}
	}
}

// P7.1: no two keys are the same, of whatever lane, purpose or master.
func TestKeysDiffer(t *testing.T) {
	seen := map[string]string{}
	// A master with bytes 0 behind it is the same one to HMAC.
	for _, master := range []string{"m", "n", "mm", "\x01"} {
		r := keyring.New(master)
		for lane := range 5 {
			for _, k := range kinds {
				key, _ := k.key(r, lane)
				if was := seen[key]; was != "" || len(key) != 32 {
					t.Errorf("%s of lane %d and %q is %x, as %s", k.purpose, lane, master, key, was)
				}
				seen[key] = k.purpose + " of " + master
			}
		}
	}
}

// P7.1: lanes that there are not; none of them counts.
func TestWrongLanes(t *testing.T) {
	r := keyring.New("m")
	for _, lane := range []int{-1, 5, 6, 255, 256, 1 << 32, 1<<32 + 1, -1 << 32, least, greatest} {
		for _, k := range kinds {
			if key, e := k.key(r, lane); key != "" || e != api.ErrArg {
				t.Errorf("%s of lane %d: %x, %d", k.purpose, lane, key, e)
			}
		}
	}
	if r.Made() != 0 {
		t.Errorf("made %d", r.Made())
	}
	r.Token(0)
	r.Put(4)
	r.Get(5)
	r.Get(-1)
	if r.Made() != 2 {
		t.Errorf("made %d of two lanes", r.Made())
	}
}

// P7.1, rule R5: a ring that no call made has no keys, also of lanes that there are not.
func TestRingThatNoCallMade(t *testing.T) {
	for name, r := range map[string]*keyring.Ring{"nil": nil, "zero": {}} {
		for _, k := range kinds {
			for _, lane := range []int{-1, 0, 4, 5, least, greatest} {
				if key, e := k.key(r, lane); key != "" || e != api.ErrNil || r.Made() != 0 {
					t.Errorf("%s, %s of lane %d: %x, %d; made %d", name, k.purpose, lane, key, e, r.Made())
				}
			}
		}
	}
}

// P7.1, P7.3: in whatever order keys are asked for, and again, they are the same, and each lane counts once.
func TestAskedAgain(t *testing.T) {
	orders := [][]int{
		{0, 1, 2, 3, 4}, {4, 3, 2, 1, 0}, {2, 2, 2}, {3, 0, 3, 0}, {1, 4, 1, 4, 2, 0, 3, 3, 0, 1}, {0}, {4, 4, 0},
	}
	for _, order := range orders {
		r := keyring.New("m")
		asked := map[int]bool{}
		for i := range 3 * len(order) {
			lane, k := order[i%len(order)], kinds[(i+i/len(order))%3]
			asked[lane] = true
			key, e := k.key(r, lane)
			if key != hmac.Derive("m", k.purpose, lane) || e != api.OK || r.Made() != len(asked) {
				t.Errorf("%v, call %d: %x, %d; made %d of %d", order, i, key, e, r.Made(), len(asked))
			}
		}
	}
}

// P7.1: which of the three keys is asked for first does not count; a new ring has none.
func TestMade(t *testing.T) {
	r := keyring.New("")
	if r.Made() != 0 {
		t.Errorf("a new ring made %d", r.Made())
	}
	for lane := range 5 {
		for i := range kinds {
			kinds[(lane+i)%3].key(r, lane)
			if r.Made() != lane+1 {
				t.Errorf("lane %d, key %d: made %d", lane, i, r.Made())
			}
		}
	}
}

// P7.3: rings go their own ways, whoever has the same master.
func TestRingsShareNothing(t *testing.T) {
	a, b, c := keyring.New("m"), keyring.New("m"), keyring.New("n")
	x, _ := a.Token(1)
	if b.Made() != 0 || c.Made() != 0 {
		t.Errorf("made %d and %d", b.Made(), c.Made())
	}
	y, _ := b.Token(1)
	z, _ := c.Token(1)
	if x != y || x == z {
		t.Errorf("%x, %x, %x", x, y, z)
	}
}

// A lane's keys are made once: who asks again makes nothing.
func TestMadeOnce(t *testing.T) {
	r := keyring.New("m")
	r.Get(2)
	if n := testing.AllocsPerRun(100, func() { r.Token(2); r.Put(2); r.Get(2) }); n != 0 {
		t.Errorf("%v things were made anew", n)
	}
}

// Several that ask at once are told the same keys, and each lane counts once.
func TestAskedAtOnce(t *testing.T) {
	for range 50 {
		r := keyring.New("m")
		var all sync.WaitGroup
		for i := range 30 {
			all.Go(func() {
				k, lane := kinds[i%3], i%5
				if key, e := k.key(r, lane); e != api.OK || key != hmac.Derive("m", k.purpose, lane) {
					t.Errorf("%s of lane %d: %x, %d", k.purpose, lane, key, e)
				}
				if made := r.Made(); made < 1 || made > 5 {
					t.Errorf("made %d", made)
				}
			})
		}
		all.Wait()
		if r.Made() != 5 {
			t.Errorf("made %d", r.Made())
		}
	}
}

// P7.2: a put ticket's text, number by number.
func TestPutText(t *testing.T) {
	rows := []struct {
		lane, client, id, time, bytes int
		want                          string
	}{
		{1, 2, 3, 4, 5, "put\x01\x02\x03\x04\x05"},
		{0, 0, 0, 0, 0, "put\x00\x00\x00\x00\x00"},
		{4, 7, 127, 128, 300, "put\x04\x07\x7f\x81\x00\x82\x2c"},
		{4, 7, 1 << 31, 1 << 40, 1 << 40, "put\x04\x07\x88\x80\x80\x80\x00\xa0\x80\x80\x80\x80\x00\xa0\x80\x80\x80\x80\x00"},
		{-1, least, -300, -1, -5, "put\x00\x00\x00\x00\x00"},
		{300, 1, 2, 3, 4, "put\x82\x2c\x01\x02\x03\x04"},
		{0, 0, 0, 0, greatest, "put\x00\x00\x00\x00\xff\xff\xff\xff\xff\xff\xff\xff\x7f"},
	}
	for _, r := range rows {
		if got := keyring.PutText(r.lane, r.client, r.id, r.time, r.bytes); string(got) != r.want {
			t.Errorf("%+v: %x", r, got)
		}
	}
}

// P7.2: a get ticket's text; the sum is any text.
func TestGetText(t *testing.T) {
	sum := strings.Repeat("s", 32)
	long := strings.Repeat("x", 300)
	rows := []struct {
		lane, client int
		sum, want    string
	}{
		{1, 2, sum, "get\x01\x02\x20" + sum},
		{0, 0, "", "get\x00\x00\x00"},
		{4, 7, "\x00", "get\x04\x07\x01\x00"},
		{-1, least, "a", "get\x00\x00\x01a"},
		{300, 128, "ab", "get\x82\x2c\x81\x00\x02ab"},
		{3, 3, long, "get\x03\x03\x82\x2c" + long},
	}
	for _, r := range rows {
		if got := keyring.GetText(r.lane, r.client, r.sum); string(got) != r.want {
			t.Errorf("%+v: %x", r, got)
		}
	}
}

// P7.2: whoever knows the form reads back what stands in a text.
func TestTextsAreRead(t *testing.T) {
	want := []int{3, 6, 1 << 31, 1 << 40, 1 << 39}
	b := keyring.PutText(want[0], want[1], want[2], want[3], want[4])
	r := pack.Open(bytes.TrimPrefix(b, []byte("put")))
	for i, n := range want {
		if got := r.Num(api.MaxTime); got != n {
			t.Errorf("number %d: %d", i, got)
		}
	}
	if r.End() != api.OK {
		t.Error(r.End())
	}
	r = pack.Open(bytes.TrimPrefix(keyring.GetText(2, 5, "sum"), []byte("get")))
	if r.Num(4) != 2 || r.Num(7) != 5 || r.Text(32) != "sum" || r.End() != api.OK {
		t.Error(r.Err())
	}
}

// Rule R3: a text is its owner's alone.
func TestTextsShareNothing(t *testing.T) {
	for range 2 {
		put, get := keyring.PutText(1, 2, 3, 4, 5), keyring.GetText(1, 2, "s")
		if string(put) != "put\x01\x02\x03\x04\x05" || string(get) != "get\x01\x02\x01s" {
			t.Errorf("%q, %q", put, get)
		}
		clear(put[:cap(put)])
		clear(get[:cap(get)])
	}
}
