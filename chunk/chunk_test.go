package chunk_test

import (
	"bytes"
	"crypto/sha256"
	"fmt"
	"math"
	"slices"
	"strings"
	"testing"

	"bailey/api"
	"bailey/chunk"
)

const (
	least    = math.MinInt
	greatest = math.MaxInt
)

// made is a store of that room.
func made(t *testing.T, room int) *chunk.Store {
	t.Helper()
	s, e := chunk.New(room)
	if s == nil || e != api.OK {
		t.Fatalf("New(%d): %v, %d", room, s, e)
	}
	return s
}

// sum is the text's sum, as the library has it.
func sum(text string) string {
	b := sha256.Sum256([]byte(text))
	return string(b[:])
}

// lay puts the text.
func lay(t *testing.T, s *chunk.Store, text string, time int) {
	t.Helper()
	if got, e := s.Put([]byte(text), time); got != sum(text) || e != api.OK {
		t.Fatalf("Put(%q, %d): %x, %d", text, time, got, e)
	}
}

// file is what a store has of a text that was put at those times.
func file(text string, sure int, times ...int) api.File {
	return api.File{Sum: sum(text), Bytes: []byte(text), Sure: sure, Times: times}
}

// with is f with other bytes.
func with(f api.File, text string) api.File {
	f.Bytes = []byte(text)
	return f
}

// holds looks whether the store has just these files.
func holds(t *testing.T, what string, s *chunk.Store, want ...api.File) {
	t.Helper()
	slices.SortFunc(want, func(a, b api.File) int { return strings.Compare(a.Sum, b.Sum) })
	used, loose := 0, 0
	for _, f := range want {
		used += len(f.Bytes)
		if f.Sure < len(f.Bytes) {
			loose++
		}
	}
	if got := s.Files(); line(got) != line(want) {
		t.Errorf("%s: %s, not %s", what, line(got), line(want))
	}
	if s.Used() != used || s.Loose() != loose {
		t.Errorf("%s: used %d, loose %d, not %d, %d", what, s.Used(), s.Loose(), used, loose)
	}
}

func line(l []api.File) string {
	var b strings.Builder
	for _, f := range l {
		fmt.Fprintf(&b, "%x %q %d %v; ", f.Sum, f.Bytes, f.Sure, f.Times)
	}
	return b.String()
}

// at is where the text's file stands.
func at(t *testing.T, s *chunk.Store, text string) int {
	t.Helper()
	i := slices.IndexFunc(s.Files(), func(f api.File) bool { return f.Sum == sum(text) })
	if i < 0 {
		t.Fatalf("no file of %q", text)
	}
	return i
}

// rot makes the text's file another one.
func rot(t *testing.T, s *chunk.Store, text string) {
	t.Helper()
	if !s.Rot(at(t, s, text), 0, 1) {
		t.Fatalf("%q does not rot", text)
	}
}

// P28.1: how much room there may be.
func TestNew(t *testing.T) {
	for _, room := range []int{0, 1, 300, api.MaxSlot - 1, api.MaxSlot} {
		holds(t, "new", made(t, room))
	}
	for _, room := range []int{-1, api.MaxSlot + 1, least, greatest} {
		if s, e := chunk.New(room); s != nil || e != api.ErrArg {
			t.Errorf("New(%d): %v, %d", room, s, e)
		}
	}
}

// P28.1: of which sizes a piece is.
func TestPutSizes(t *testing.T) {
	s := made(t, api.MaxSlot)
	var want []api.File
	for _, n := range []int{1, 2, 255, 256} {
		text := strings.Repeat("x", n)
		lay(t, s, text, n)
		want = append(want, file(text, 0, n))
	}
	for _, b := range [][]byte{nil, {}, make([]byte, 257), make([]byte, 1000)} {
		if got, e := s.Put(b, 1); got != "" || e != api.ErrArg {
			t.Errorf("Put of %d bytes: %x, %d", len(b), got, e)
		}
	}
	holds(t, "sizes", s, want...)
	full := made(t, 0)
	if _, e := full.Put(nil, 1); e != api.ErrArg {
		t.Errorf("no bytes, no room: %d", e)
	}
	if _, e := full.Put(make([]byte, 257), 1); e != api.ErrArg {
		t.Errorf("too many bytes, no room: %d", e)
	}
}

// P28.1: files stand by their sums; those of any bytes are found.
func TestPutMany(t *testing.T) {
	s := made(t, 10000)
	var want []api.File
	for i := range 300 {
		text := fmt.Sprint("piece ", i, "\x00\xff")
		lay(t, s, text, -i)
		want = append(want, file(text, 0, -i))
	}
	holds(t, "many", s, want...)
}

// P28.1: what is there is put again: its times rise, each once; it takes no
// more room, and what is sure stays so.
func TestPutAgain(t *testing.T) {
	s := made(t, 3)
	lay(t, s, "abc", 5)
	s.Sync()
	for _, c := range []struct {
		time int
		want []int
	}{{5, []int{5}}, {9, []int{5, 9}}, {1, []int{1, 5, 9}}, {7, []int{1, 5, 7, 9}}, {9, []int{1, 5, 7, 9}}, {1, []int{1, 5, 7, 9}}, {least, []int{least, 1, 5, 7, 9}}, {greatest, []int{least, 1, 5, 7, 9, greatest}}} {
		lay(t, s, "abc", c.time)
		holds(t, fmt.Sprint("put at ", c.time), s, file("abc", 3, c.want...))
	}
}

// P28.1: what is not sure when it is put again is not sure by that.
func TestPutAgainLoose(t *testing.T) {
	s := made(t, 9)
	lay(t, s, "abc", 5)
	lay(t, s, "abc", 6)
	holds(t, "not sure", s, file("abc", 0, 5, 6))
}

// P28.1: all bytes together have the room.
func TestPutFull(t *testing.T) {
	s := made(t, 5)
	lay(t, s, "abc", 1)
	if got, e := s.Put([]byte("def"), 1); got != "" || e != api.ErrFull {
		t.Errorf("one more than room: %x, %d", got, e)
	}
	holds(t, "refused", s, file("abc", 0, 1))
	lay(t, s, "d", 1)
	holds(t, "one below", s, file("abc", 0, 1), file("d", 0, 1))
	lay(t, s, "e", 1)
	if _, e := s.Put([]byte("f"), 1); e != api.ErrFull {
		t.Errorf("full: %d", e)
	}
	lay(t, s, "abc", 2)
	holds(t, "full", s, file("abc", 0, 1, 2), file("d", 0, 1), file("e", 0, 1))
	exact := made(t, 256)
	lay(t, exact, strings.Repeat("y", 256), 1)
	if _, e := made(t, 255).Put(make([]byte, 256), 1); e != api.ErrFull {
		t.Errorf("255 bytes of room: %d", e)
	}
	if _, e := made(t, 0).Put([]byte("a"), 1); e != api.ErrFull {
		t.Errorf("no room: %d", e)
	}
}

// P28.1: what is rotten is put anew: it is not sure then, and has its times.
func TestPutRotten(t *testing.T) {
	s := made(t, 5)
	lay(t, s, "abc", 5)
	lay(t, s, "de", 1)
	s.Sync()
	rot(t, s, "abc")
	holds(t, "rotten", s, with(file("abc", 3, 5), "`bc"), file("de", 2, 1))
	lay(t, s, "abc", 3)
	holds(t, "anew", s, file("abc", 0, 3, 5), file("de", 2, 1))
	s.Sync()
	rot(t, s, "abc")
	lay(t, s, "abc", 5)
	holds(t, "anew, at the same time", s, file("abc", 0, 3, 5), file("de", 2, 1))
	rot(t, s, "de")
	s.Crash(nil)
	holds(t, "behind a crash", s, with(file("de", 2, 1), "ee"))
}

// P28.1: of a file that a crash cut there are other bytes than its sum's: put
// anew, it may have no room.
func TestPutCut(t *testing.T) {
	s := made(t, 5)
	lay(t, s, "abcd", 5)
	s.Crash([]int{2})
	cut := with(file("abcd", 2, 5), "ab")
	holds(t, "cut", s, cut)
	lay(t, s, "xy", 1)
	if got, e := s.Put([]byte("abcd"), 6); got != "" || e != api.ErrFull {
		t.Errorf("one more than room: %x, %d", got, e)
	}
	holds(t, "refused", s, cut, file("xy", 0, 1))
	s.Crash(nil)
	lay(t, s, "z", 1)
	lay(t, s, "abcd", 6)
	holds(t, "anew, just at room", s, file("abcd", 0, 5, 6), file("z", 0, 1))
}

// P28.2: what is there, is not, or is rotten.
func TestGet(t *testing.T) {
	s := made(t, 100)
	lay(t, s, "abc", 1)
	lay(t, s, "rotten", 1)
	rot(t, s, "rotten")
	for _, c := range []struct {
		sum, text string
		e         api.Errno
	}{
		{sum("abc"), "abc", api.OK}, {sum("rotten"), "", api.ErrCorrupt}, {sum("none"), "", api.ErrNone}, {"", "", api.ErrNone},
		{sum("abc")[:31], "", api.ErrNone}, {sum("abc") + "\x00", "", api.ErrNone}, {sum(""), "", api.ErrNone}, {"abc", "", api.ErrNone},
	} {
		b, e := s.Get(c.sum)
		if string(b) != c.text || e != c.e || s.Has(c.sum) != (c.e == api.OK) {
			t.Errorf("%x: %q, %d, has %v, not %q, %d", c.sum, b, e, s.Has(c.sum), c.text, c.e)
		}
	}
	s.Rot(at(t, s, "rotten"), 0, 1)
	if b, e := s.Get(sum("rotten")); string(b) != "rotten" || e != api.OK {
		t.Errorf("as it was: %q, %d", b, e)
	}
	s.Crash(nil)
	if _, e := s.Get(sum("abc")); e != api.ErrNone || s.Has(sum("abc")) {
		t.Errorf("behind a crash: %d", e)
	}
}

// P28.2: of how many files all bytes were made sure.
func TestSync(t *testing.T) {
	s := made(t, 100)
	if n := s.Sync(); n != 0 {
		t.Errorf("none: %d", n)
	}
	for i, text := range []string{"a", "bc", "def"} {
		lay(t, s, text, 1)
		if n := s.Loose(); n != i+1 {
			t.Errorf("%d files: %d", i+1, n)
		}
	}
	if n := s.Sync(); n != 3 {
		t.Errorf("all of three: %d", n)
	}
	lay(t, s, "g", 1)
	lay(t, s, "a", 2)
	holds(t, "some", s, file("a", 1, 1, 2), file("bc", 2, 1), file("def", 3, 1), file("g", 0, 1))
	if n := s.Sync(); n != 1 || s.Loose() != 0 || s.Sync() != 0 {
		t.Errorf("one of four: %d", n)
	}
	s.Crash([]int{0})
	holds(t, "behind a crash", s, file("a", 1, 1, 2), file("bc", 2, 1), file("def", 3, 1), file("g", 1, 1))
}

// P28.2: how much stays of what is not sure, file by file.
func TestCrash(t *testing.T) {
	// These stand in this order by their sums.
	texts := []string{"eee", "ccc", "ddd", "fff"}
	slices.SortFunc(texts, func(a, b string) int { return strings.Compare(sum(a), sum(b)) })
	for _, c := range []struct {
		keeps []int
		stay  [4]int // of the third one all is sure
	}{
		{nil, [4]int{0, 0, 3, 0}}, {[]int{}, [4]int{0, 0, 3, 0}}, {[]int{0}, [4]int{0, 0, 3, 0}}, {[]int{-1}, [4]int{0, 0, 3, 0}}, {[]int{least}, [4]int{0, 0, 3, 0}},
		{[]int{1}, [4]int{1, 1, 3, 1}}, {[]int{2}, [4]int{2, 2, 3, 2}}, {[]int{3}, [4]int{3, 3, 3, 3}}, {[]int{4}, [4]int{3, 3, 3, 3}}, {[]int{greatest}, [4]int{3, 3, 3, 3}},
		{[]int{1, 2}, [4]int{1, 2, 3, 1}}, {[]int{0, 3}, [4]int{0, 3, 3, 0}}, {[]int{1, 2, 0}, [4]int{1, 2, 3, 0}}, {[]int{-1, 4, 2, 1}, [4]int{0, 3, 3, 2}}, {[]int{0, 0, 1}, [4]int{0, 0, 3, 1}},
	} {
		s := made(t, 12)
		lay(t, s, texts[2], 7)
		s.Sync()
		for _, text := range texts {
			lay(t, s, text, 8)
		}
		s.Crash(c.keeps)
		want := []api.File{file(texts[2], 3, 7, 8)}
		for i, n := range c.stay {
			if i != 2 && n > 0 {
				want = append(want, with(file(texts[i], n, 8), texts[i][:n]))
			}
		}
		holds(t, fmt.Sprint("keeps ", c.keeps), s, want...)
		s.Crash(nil)
		holds(t, fmt.Sprint("again behind keeps ", c.keeps), s, want...)
	}
	none := made(t, 1)
	none.Crash([]int{1})
	holds(t, "no files", none)
}

// P28.3: which byte of which file is changed, and how.
func TestRot(t *testing.T) {
	texts := []string{"abc", "defg", "h"}
	slices.SortFunc(texts, func(a, b string) int { return strings.Compare(sum(a), sum(b)) })
	for _, c := range []struct{ i, file int }{{0, 0}, {1, 1}, {2, 2}, {3, 0}, {4, 1}, {-1, 2}, {-2, 1}, {-3, 0}, {-4, 2}, {300, 0}, {greatest, greatest % 3}, {least, 3 + least%3}} {
		for _, at := range []int{0, 1, 2, 3, 4, -1, -2, 11, 12, -12, greatest, least} {
			for _, bits := range []int{0, 1, 128, 255, 256, 257, 1 << 40, -1, -256, -255, greatest, least} {
				s := made(t, 100)
				var want []api.File
				for _, text := range texts {
					lay(t, s, text, 1)
				}
				s.Sync()
				for i, text := range texts {
					f := file(text, len(text), 1)
					if i == c.file {
						n := len(text)
						f.Bytes[(at%n+n)%n] ^= byte((bits%256 + 256) % 256)
					}
					want = append(want, f)
				}
				if !s.Rot(c.i, at, bits) {
					t.Errorf("Rot(%d, %d, %d): no", c.i, at, bits)
				}
				holds(t, fmt.Sprint("Rot ", c.i, at, bits), s, want...)
				changed := bits%256 != 0
				if s.Has(sum(texts[c.file])) == changed {
					t.Errorf("Rot(%d, %d, %d): intact %v", c.i, at, bits, !changed)
				}
			}
		}
	}
	if made(t, 5).Rot(0, 0, 1) {
		t.Error("a store without files rots")
	}
}

// P28.3: what is rotten goes.
func TestScrub(t *testing.T) {
	s := made(t, 100)
	if l := s.Scrub(); len(l) != 0 {
		t.Errorf("no files: %x", l)
	}
	var want []string
	var stay []api.File
	for i := range 20 {
		text := fmt.Sprint(i)
		lay(t, s, text, i)
		if i%3 == 0 {
			rot(t, s, text)
			want = append(want, sum(text))
		} else {
			stay = append(stay, file(text, 0, i))
		}
	}
	slices.Sort(want)
	if l := s.Scrub(); !slices.Equal(l, want) {
		t.Errorf("%x, not %x", l, want)
	}
	holds(t, "scrubbed", s, stay...)
	if l := s.Scrub(); len(l) != 0 {
		t.Errorf("again: %x", l)
	}
	lay(t, s, "0", 1)
	holds(t, "put anew", s, append(stay, file("0", 0, 1))...)
	cut := made(t, 9)
	lay(t, cut, "abc", 1)
	cut.Crash([]int{2})
	if l := cut.Scrub(); len(l) != 1 || l[0] != sum("abc") || cut.Used() != 0 {
		t.Errorf("cut by a crash: %x", l)
	}
}

// P28.3: what is needed, of that time or later, or live stays.
func TestSweep(t *testing.T) {
	for _, c := range []struct {
		what  string
		times []int
		time  int
		needs []string
		live  []int
		goes  bool
	}{
		{"below", []int{4}, 5, nil, nil, true},
		{"at", []int{5}, 5, nil, nil, false},
		{"above", []int{6}, 5, nil, nil, false},
		{"all below", []int{1, 2, 4}, 5, nil, nil, true},
		{"one at", []int{1, 2, 5}, 5, nil, nil, false},
		{"one above", []int{1, 9}, 5, nil, nil, false},
		{"live", []int{4}, 5, nil, []int{4}, false},
		{"others live", []int{4}, 5, nil, []int{3, 5, 0}, true},
		{"the first one live", []int{1, 2, 3}, 5, nil, []int{1}, false},
		{"one of several live", []int{1, 2, 3}, 5, nil, []int{9, 2}, false},
		{"the last one live", []int{1, 2, 3}, 5, nil, []int{3}, false},
		{"needed", []int{4}, 5, []string{sum("x")}, nil, false},
		{"needed among others", []int{4}, 5, []string{sum("a"), sum("x"), sum("b")}, nil, false},
		{"others needed", []int{4}, 5, []string{sum("a"), "", "x"}, nil, true},
		{"below 0", []int{-3}, -2, nil, nil, true},
		{"all times", []int{least, 0, greatest - 1}, greatest, nil, nil, true},
		{"no time", []int{least}, least, nil, nil, false},
	} {
		s := made(t, 100)
		for _, time := range c.times {
			lay(t, s, "x", time)
		}
		want, n := []api.File{file("x", 0, c.times...)}, 0
		if c.goes {
			want, n = nil, 1
		}
		if got := s.Sweep(c.time, c.needs, c.live); got != n {
			t.Errorf("%s: %d go, not %d", c.what, got, n)
		}
		holds(t, c.what, s, want...)
	}
}

// P28.3: of many those go that may; rotten ones and such that are not sure, too.
func TestSweepMany(t *testing.T) {
	s := made(t, 1000)
	var want []api.File
	var needs []string
	for i := range 40 {
		text := fmt.Sprint(i)
		lay(t, s, text, i)
		if i%4 == 0 {
			needs = append(needs, sum(text))
		}
		if i%4 == 0 || i >= 20 || i == 5 || i == 7 {
			want = append(want, file(text, len(text), i))
		}
	}
	s.Sync()
	rot(t, s, "1")
	if n := s.Sweep(20, needs, []int{7, 5, 100}); n != 40-len(want) {
		t.Errorf("%d go, not %d", n, 40-len(want))
	}
	holds(t, "swept", s, want...)
	if n := s.Sweep(20, needs, []int{5, 7}); n != 0 {
		t.Errorf("again: %d", n)
	}
	if n := made(t, 5).Sweep(greatest, nil, nil); n != 0 {
		t.Errorf("no files: %d", n)
	}
}

// P28.3: a copy goes its own way.
func TestCopy(t *testing.T) {
	s := made(t, 6)
	lay(t, s, "abc", 1)
	s.Sync()
	lay(t, s, "de", 2)
	was := []api.File{file("abc", 3, 1), file("de", 0, 2)}
	for _, c := range []struct {
		what string
		does func(s *chunk.Store)
	}{
		{"put", func(s *chunk.Store) { lay(t, s, "f", 1) }},
		{"put again", func(s *chunk.Store) { lay(t, s, "abc", 0); lay(t, s, "de", 9) }},
		{"synced", func(s *chunk.Store) { s.Sync() }},
		{"crashed", func(s *chunk.Store) { s.Crash([]int{1}) }},
		{"rotten", func(s *chunk.Store) { s.Rot(0, 0, 7); s.Rot(1, 1, 7) }},
		{"scrubbed", func(s *chunk.Store) { s.Rot(1, 1, 7); s.Scrub() }},
		{"swept", func(s *chunk.Store) { s.Sweep(9, nil, nil) }},
	} {
		one, other := s.Copy(), s.Copy()
		holds(t, "copied", one, was...)
		c.does(one)
		holds(t, c.what+" the copy", s, was...)
		c.does(other)
		if line(one.Files()) != line(other.Files()) {
			t.Errorf("%s: the copies differ", c.what)
		}
		third := other.Copy()
		c.does(third)
		c.does(other)
		if line(third.Files()) != line(other.Files()) {
			t.Errorf("%s again: the copies differ", c.what)
		}
	}
	c := s.Copy()
	c.Crash(nil)
	c.Sweep(9, nil, nil)
	s.Rot(0, 0, 1)
	holds(t, "an empty copy", c)
	lay(t, c, "123456", 1)
	if _, e := c.Put([]byte("7"), 1); e != api.ErrFull {
		t.Errorf("the copy's room: %d", e)
	}
	if got := made(t, 3).Copy(); got == nil || got.Used() != 0 {
		t.Errorf("of an empty store: %v", got)
	}
}

// R3: what is handed in, or answered, may be changed.
func TestShared(t *testing.T) {
	s := made(t, 100)
	b := []byte("abc")
	s.Put(b, 1)
	s.Put(b, 5)
	copy(b, "xyz")
	want := file("abc", 0, 1, 5)
	holds(t, "handed in", s, want)
	got, _ := s.Get(sum("abc"))
	copy(got, "xyz")
	_ = append(got[:cap(got)], 1)
	holds(t, "got", s, want)
	l := s.Files()
	copy(l[0].Bytes, "xyz")
	l[0].Times[0] = 9
	l[0].Sum, l[0].Sure = "", 3
	holds(t, "files", s, want)
	keeps, needs, live := []int{9}, []string{"x"}, []int{1, 2}
	s.Crash(keeps)
	s.Sweep(9, needs, live)
	if keeps[0] != 9 || needs[0] != "x" || live[0] != 1 || live[1] != 2 {
		t.Error("what was handed in is changed")
	}
	holds(t, "crashed", s, file("abc", 3, 1, 5))
}

// R5: a store that no call made.
func TestNoStore(t *testing.T) {
	for _, s := range []*chunk.Store{nil, {}} {
		for _, b := range [][]byte{nil, []byte("a"), make([]byte, 257)} {
			if got, e := s.Put(b, 1); got != "" || e != api.ErrNil {
				t.Errorf("Put: %q, %d", got, e)
			}
		}
		if b, e := s.Get(sum("a")); b != nil || e != api.ErrNil {
			t.Errorf("Get: %q, %d", b, e)
		}
		s.Crash([]int{1})
		if s.Has(sum("a")) || s.Sync() != 0 || s.Rot(0, 0, 1) || len(s.Scrub()) != 0 || s.Sweep(1, nil, nil) != 0 {
			t.Error("it does something")
		}
		if len(s.Files()) != 0 || s.Used() != 0 || s.Loose() != 0 || s.Copy() != nil {
			t.Error("it has something")
		}
	}
}

// P28.4: what was put is got, until it is rotten, swept, or crashed away.
func TestExample(t *testing.T) {
	s := made(t, 9)
	lay(t, s, "a", 1)
	s.Crash(nil)
	if b, e := s.Get(sum("a")); b != nil || e != api.ErrNone {
		t.Errorf("%q, %d", b, e)
	}
	lay(t, s, "a", 1)
	s.Sync()
	s.Crash(nil)
	if b, e := s.Get(sum("a")); !bytes.Equal(b, []byte("a")) || e != api.OK {
		t.Errorf("%q, %d", b, e)
	}
}
