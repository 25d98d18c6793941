package disk_test

import (
	"bytes"
	"math"
	"math/rand"
	"slices"
	"strings"
	"testing"

	"bailey/api"
	"bailey/disk"
)

const (
	least    = math.MinInt
	greatest = math.MaxInt
)

// made is a disk of so many slots of that room.
func made(t *testing.T, slots, room int) *disk.Disk {
	t.Helper()
	d, e := disk.New(slots, room)
	if d == nil || e != api.OK {
		t.Fatalf("New(%d, %d): %v, %d", slots, room, d, e)
	}
	return d
}

// lay appends text to the slot.
func lay(t *testing.T, d *disk.Disk, slot int, text string) {
	t.Helper()
	if e := d.Append(slot, []byte(text)); e != api.OK {
		t.Fatalf("Append(%d, %q): %d", slot, text, e)
	}
}

// holds looks whether the disk's slots have these texts, and no more slots.
func holds(t *testing.T, d *disk.Disk, what string, texts ...string) {
	t.Helper()
	if d.Slots() != len(texts) {
		t.Errorf("%s: %d slots, not %d", what, d.Slots(), len(texts))
	}
	for slot, text := range texts {
		b, e := d.Read(slot)
		if string(b) != text || e != api.OK || d.Size(slot) != len(text) {
			t.Errorf("%s: slot %d: %q, %d, size %d, not %q", what, slot, b, e, d.Size(slot), text)
		}
	}
}

// P9.1: how many slots and how much room there may be.
func TestNew(t *testing.T) {
	for _, slots := range []int{1, 2, 15, 16} {
		for _, room := range []int{0, 1, 100, api.MaxSlot - 1, api.MaxSlot} {
			d := made(t, slots, room)
			holds(t, d, "new", make([]string, slots)...)
			if d.Room() != room || d.Loose() != 0 || d.Sync() != 0 {
				t.Errorf("New(%d, %d): room %d, loose %d", slots, room, d.Room(), d.Loose())
			}
		}
	}
	for _, no := range [][2]int{{0, 1}, {17, 1}, {-1, 1}, {least, 1}, {greatest, 1}, {1, -1}, {1, api.MaxSlot + 1}, {16, least}, {16, greatest}, {0, -1}} {
		if d, e := disk.New(no[0], no[1]); d != nil || e != api.ErrArg {
			t.Errorf("New(%d, %d): %v, %d", no[0], no[1], d, e)
		}
	}
}

// P9.1: bytes stand one behind the other, in their own slot.
func TestAppend(t *testing.T) {
	d := made(t, 3, 10)
	lay(t, d, 1, "ab")
	lay(t, d, 2, "\x00\xff")
	lay(t, d, 1, "")
	lay(t, d, 1, "cde")
	holds(t, d, "appended", "", "abcde", "\x00\xff")
	if e := d.Append(0, nil); e != api.OK {
		t.Errorf("nil: %d", e)
	}
	holds(t, d, "nothing appended", "", "abcde", "\x00\xff")
}

// P9.1: a slot that is just full takes nothing but nothing; with an error
// nothing has changed.
func TestAppendFull(t *testing.T) {
	for _, room := range []int{0, 1, 2, 300, api.MaxSlot} {
		d := made(t, 1, room)
		full := strings.Repeat("x", room)
		if e := d.Append(0, []byte(full+"y")); e != api.ErrFull {
			t.Errorf("room %d, one byte more: %d", room, e)
		}
		holds(t, d, "too much at once", "")
		lay(t, d, 0, full)
		if e := d.Append(0, []byte("y")); e != api.ErrFull {
			t.Errorf("room %d, full, and one byte more: %d", room, e)
		}
		lay(t, d, 0, "")
		holds(t, d, "full", full)
		if d.Loose() != room {
			t.Errorf("room %d: loose %d", room, d.Loose())
		}
	}
}

// P9.1: room that was cut, cleared or crashed away is room again.
func TestRoomComesBack(t *testing.T) {
	d := made(t, 1, 3)
	lay(t, d, 0, "abc")
	d.Cut(0, 2)
	lay(t, d, 0, "d")
	holds(t, d, "behind a cut", "abd")
	d.Clear(0)
	lay(t, d, 0, "efg")
	holds(t, d, "behind a clear", "efg")
	d.Crash([]int{1})
	lay(t, d, 0, "hi")
	holds(t, d, "behind a crash", "ehi")
	if e := d.Append(0, []byte("j")); e != api.ErrFull {
		t.Errorf("full again: %d", e)
	}
}

// P9.1: slots that there are not.
func TestNoSuchSlot(t *testing.T) {
	for _, slots := range []int{1, 3, 16} {
		for _, slot := range []int{-1, slots, slots + 1, 16, 17, least, greatest} {
			if slot >= 0 && slot < slots {
				continue
			}
			d := made(t, slots, 1)
			lay(t, d, 0, "a")
			b, e := d.Read(slot)
			if b != nil || e != api.ErrArg {
				t.Errorf("Read(%d) of %d: %q, %d", slot, slots, b, e)
			}
			// What has no slot has no room either: the slot is told first.
			for _, text := range []string{"", "b", "bc"} {
				if e := d.Append(slot, []byte(text)); e != api.ErrArg {
					t.Errorf("Append(%d) of %d: %d", slot, slots, e)
				}
			}
			if e := d.Clear(slot); e != api.ErrArg {
				t.Errorf("Clear(%d) of %d: %d", slot, slots, e)
			}
			if e := d.Cut(slot, 0); e != api.ErrArg {
				t.Errorf("Cut(%d, 0) of %d: %d", slot, slots, e)
			}
			if n := d.Size(slot); n != 0 {
				t.Errorf("Size(%d) of %d: %d", slot, slots, n)
			}
			if d.Loose() != 1 || d.Size(0) != 1 {
				t.Errorf("slot %d of %d changed another one", slot, slots)
			}
		}
	}
}

// P9.1: what is cleared has none, and that is sure.
func TestClear(t *testing.T) {
	d := made(t, 2, 5)
	lay(t, d, 0, "ab")
	lay(t, d, 1, "xy")
	d.Sync()
	lay(t, d, 0, "c")
	lay(t, d, 1, "z")
	if e := d.Clear(0); e != api.OK || d.Loose() != 1 {
		t.Errorf("Clear: %d, loose %d", e, d.Loose())
	}
	holds(t, d, "cleared", "", "xyz")
	d.Crash([]int{9, 9})
	holds(t, d, "crashed", "", "xyz")
	if e := d.Clear(0); e != api.OK {
		t.Errorf("Clear of none: %d", e)
	}
	lay(t, d, 0, "d")
	if d.Loose() != 1 {
		t.Errorf("appended behind a clear: loose %d", d.Loose())
	}
	d.Crash(nil)
	holds(t, d, "appended and crashed", "", "xyz")
}

// P9.1: a cut to each size; of what is left as much is sure as was.
func TestCut(t *testing.T) {
	for size := range 7 {
		d := made(t, 2, 9)
		lay(t, d, 0, "abcd")
		lay(t, d, 1, "other")
		d.Sync()
		lay(t, d, 0, "ef")
		if e := d.Cut(0, size); e != api.OK {
			t.Errorf("Cut to %d: %d", size, e)
		}
		holds(t, d, "cut", "abcdef"[:size], "other")
		if loose := max(size-4, 0); d.Loose() != loose {
			t.Errorf("cut to %d: loose %d, not %d", size, d.Loose(), loose)
		}
		lay(t, d, 0, "gh")
		if loose := max(size-4, 0) + 2; d.Loose() != loose {
			t.Errorf("cut to %d, two behind it: loose %d, not %d", size, d.Loose(), loose)
		}
		d.Crash(nil)
		holds(t, d, "cut and crashed", "abcd"[:min(size, 4)], "other")
	}
}

// P9.1: a cut below 0 or above what there is changes nothing.
func TestCutRefused(t *testing.T) {
	d := made(t, 2, 9)
	lay(t, d, 0, "abc")
	lay(t, d, 1, "abcdefg")
	for _, size := range []int{-1, 4, 7, 9, least, greatest} {
		if e := d.Cut(0, size); e != api.ErrArg {
			t.Errorf("Cut(0, %d): %d", size, e)
		}
		holds(t, d, "no cut", "abc", "abcdefg")
	}
	if d.Loose() != 10 {
		t.Errorf("loose %d", d.Loose())
	}
}

// P9.2: Sync makes all sure, of all slots, and tells how many were not.
func TestSync(t *testing.T) {
	d := made(t, 16, 9)
	lay(t, d, 0, "ab")
	lay(t, d, 7, "c")
	lay(t, d, 15, "def")
	if d.Loose() != 6 || d.Sync() != 6 || d.Loose() != 0 || d.Sync() != 0 {
		t.Errorf("loose %d", d.Loose())
	}
	lay(t, d, 7, "gh")
	if d.Loose() != 2 || d.Sync() != 2 {
		t.Errorf("loose %d", d.Loose())
	}
	d.Crash([]int{0})
	want := make([]string, 16)
	want[0], want[7], want[15] = "ab", "cgh", "def"
	holds(t, d, "made sure and crashed", want...)
}

// P9.2: how much stays of four slots, of which one has nothing that is not
// sure, and takes no turn.
func TestCrash(t *testing.T) {
	for _, c := range []struct {
		keeps []int
		want  [4]string
	}{
		{nil, [4]string{"a", "", "sure", "x"}},
		{[]int{}, [4]string{"a", "", "sure", "x"}},
		{[]int{0}, [4]string{"a", "", "sure", "x"}},
		{[]int{1}, [4]string{"ab", "k", "sure", "xy"}},
		{[]int{1, 2}, [4]string{"ab", "kl", "sure", "xy"}},
		{[]int{0, 2}, [4]string{"a", "kl", "sure", "x"}},
		{[]int{2, 0, 1}, [4]string{"abc", "", "sure", "xy"}},
		{[]int{0, 0, 3}, [4]string{"a", "", "sure", "xyz!"}},
		{[]int{0, 0, 0, 3}, [4]string{"a", "", "sure", "x"}},
		{[]int{-1, 2, -5, 9}, [4]string{"a", "kl", "sure", "x"}},
		{[]int{least, greatest}, [4]string{"a", "klm", "sure", "x"}},
		{[]int{greatest, least}, [4]string{"abc", "", "sure", "xyz!"}},
		{[]int{9}, [4]string{"abc", "klm", "sure", "xyz!"}},
		{[]int{2, 3, 3}, [4]string{"abc", "klm", "sure", "xyz!"}},
	} {
		d := made(t, 4, 9)
		lay(t, d, 0, "a")
		lay(t, d, 2, "sure")
		lay(t, d, 3, "x")
		d.Sync()
		lay(t, d, 0, "bc")
		lay(t, d, 1, "klm")
		lay(t, d, 3, "yz!")
		keeps := slices.Clone(c.keeps)
		d.Crash(keeps)
		holds(t, d, "crashed", c.want[:]...)
		if d.Loose() != 0 || d.Sync() != 0 {
			t.Errorf("keeps %v: loose %d", c.keeps, d.Loose())
		}
		if !slices.Equal(keeps, c.keeps) {
			t.Errorf("keeps %v were changed: %v", c.keeps, keeps)
		}
		// What stayed is sure: another crash takes none of it.
		d.Crash(nil)
		holds(t, d, "crashed again", c.want[:]...)
	}
}

// P9.2: each crash begins with the first one of its keeps.
func TestCrashesApart(t *testing.T) {
	d := made(t, 1, 9)
	keeps := []int{1, 2}
	for range 3 {
		lay(t, d, 0, "abc")
		d.Crash(keeps)
	}
	holds(t, d, "three crashes", "aaa")
}

// P9.2: the chapter's example.
func TestExample(t *testing.T) {
	d := made(t, 1, 3)
	lay(t, d, 0, "ab")
	d.Sync()
	lay(t, d, 0, "c")
	if e := d.Append(0, []byte("d")); e != api.ErrFull {
		t.Errorf("full: %d", e)
	}
	d.Crash(nil)
	holds(t, d, "crashed", "ab")
}

// P9.3: a copy is the same, what is sure too, and goes its own way.
func TestCopy(t *testing.T) {
	d := made(t, 2, 4)
	lay(t, d, 0, "ab")
	d.Sync()
	lay(t, d, 0, "c")
	lay(t, d, 1, "x")
	c := d.Copy()
	holds(t, c, "copy", "abc", "x")
	if c.Room() != 4 || c.Loose() != 2 {
		t.Errorf("copy: room %d, loose %d", c.Room(), c.Loose())
	}
	lay(t, d, 0, "d")
	lay(t, c, 0, "D")
	holds(t, d, "first", "abcd", "x")
	holds(t, c, "copy", "abcD", "x")
	d.Crash(nil)
	holds(t, d, "crashed", "ab", "")
	holds(t, c, "copy of it", "abcD", "x")
	c.Cut(0, 1)
	c.Sync()
	holds(t, d, "crashed", "ab", "")
	holds(t, c, "cut", "a", "x")
	if e := c.Append(0, []byte("bcde")); e != api.ErrFull {
		t.Errorf("copy, full: %d", e)
	}
	if c.Copy().Copy().Size(1) != 1 {
		t.Error("copy of a copy")
	}
}

// P9.3, rule R5: a disk that no call made.
func TestNoDisk(t *testing.T) {
	for _, d := range []*disk.Disk{nil, {}} {
		b, e := d.Read(0)
		if b != nil || e != api.ErrNil {
			t.Errorf("Read: %q, %d", b, e)
		}
		// It is told ahead of a slot that there is not.
		for _, slot := range []int{-1, 0, 16} {
			if d.Append(slot, nil) != api.ErrNil || d.Append(slot, []byte("a")) != api.ErrNil || d.Clear(slot) != api.ErrNil || d.Cut(slot, -1) != api.ErrNil || d.Cut(slot, 0) != api.ErrNil {
				t.Errorf("slot %d of no disk", slot)
			}
			if _, e := d.Read(slot); e != api.ErrNil {
				t.Errorf("Read(%d): %d", slot, e)
			}
		}
		d.Crash([]int{1})
		if d.Sync() != 0 || d.Size(0) != 0 || d.Loose() != 0 || d.Room() != 0 || d.Slots() != 0 || d.Copy() != nil {
			t.Error("no disk has something")
		}
	}
}

// Rule R3: what is handed in and what is answered is not what stands within.
func TestNothingShared(t *testing.T) {
	d := made(t, 1, 9)
	in := []byte("abc")
	d.Append(0, in)
	in[0] = '!'
	out, _ := d.Read(0)
	out[1] = '!'
	_ = append(out, "xyz"...)
	holds(t, d, "shared", "abc")
	first, _ := d.Read(0)
	d.Cut(0, 1)
	d.Append(0, []byte("XY"))
	if string(first) != "abc" {
		t.Errorf("what was read became %q", first)
	}
	mine := append(make([]byte, 0, 9), "de"...)
	d.Append(0, mine)
	if string(mine[:5]) != "de\x00\x00\x00" {
		t.Errorf("what was handed in became %q", mine[:5])
	}
}

// model is what a disk has, told in the plainest way.
type model struct {
	room  int
	bytes []string
	sure  []int
}

func (m *model) crash(keeps []int) {
	at := 0
	for i, b := range m.bytes {
		if len(b) == m.sure[i] {
			continue
		}
		keep := 0
		if len(keeps) > 0 {
			keep = min(max(keeps[at%len(keeps)], 0), len(b)-m.sure[i])
		}
		at++
		m.bytes[i] = b[:m.sure[i]+keep]
		m.sure[i] += keep
	}
}

func (m *model) loose() int {
	sum := 0
	for i, b := range m.bytes {
		sum += len(b) - m.sure[i]
	}
	return sum
}

// step does one thing to both, and looks whether they answer the same.
func (m *model) step(t *testing.T, d *disk.Disk, r *rand.Rand) {
	slot := r.Intn(len(m.bytes))
	switch r.Intn(8) {
	case 0, 1, 2:
		b := make([]byte, r.Intn(6))
		r.Read(b)
		want := api.OK
		if len(m.bytes[slot])+len(b) > m.room {
			want = api.ErrFull
		} else {
			m.bytes[slot] += string(b)
		}
		if e := d.Append(slot, b); e != want {
			t.Fatalf("Append: %d, not %d", e, want)
		}
	case 3:
		size := r.Intn(len(m.bytes[slot])+3) - 1
		want := api.ErrArg
		if size >= 0 && size <= len(m.bytes[slot]) {
			want = api.OK
			m.bytes[slot] = m.bytes[slot][:size]
			m.sure[slot] = min(m.sure[slot], size)
		}
		if e := d.Cut(slot, size); e != want {
			t.Fatalf("Cut to %d: %d, not %d", size, e, want)
		}
	case 4:
		if n := d.Sync(); n != m.loose() {
			t.Fatalf("Sync: %d, not %d", n, m.loose())
		}
		for i, b := range m.bytes {
			m.sure[i] = len(b)
		}
	case 5:
		if r.Intn(4) == 0 {
			d.Clear(slot)
			m.bytes[slot], m.sure[slot] = "", 0
		}
	case 6:
		keeps := make([]int, r.Intn(4))
		for i := range keeps {
			keeps[i] = r.Intn(8) - 2
		}
		d.Crash(keeps)
		m.crash(keeps)
	}
}

// P9.4, P9.5: whatever is done, each slot has what the plain model says: what
// is sure stays, what is there is a beginning, and no slot has another's room.
func TestAgainstModel(t *testing.T) {
	for seed := range 60 {
		r := rand.New(rand.NewSource(int64(seed)))
		slots := 1 + r.Intn(4)
		m := &model{room: r.Intn(30), bytes: make([]string, slots), sure: make([]int, slots)}
		d := made(t, slots, m.room)
		for range 200 {
			if r.Intn(10) == 0 {
				d = d.Copy()
			}
			m.step(t, d, r)
			holds(t, d, "model", m.bytes...)
			if d.Loose() != m.loose() {
				t.Fatalf("loose %d, not %d", d.Loose(), m.loose())
			}
		}
	}
}

// P9.4: what is sure is there behind a crash, and what is there is a beginning
// of what was.
func TestWhatLasts(t *testing.T) {
	for keep := -1; keep < 6; keep++ {
		d := made(t, 2, 9)
		lay(t, d, 1, "sure")
		d.Sync()
		lay(t, d, 1, "more")
		was, _ := d.Read(1)
		d.Crash([]int{keep})
		is, _ := d.Read(1)
		if !bytes.HasPrefix(is, []byte("sure")) || !bytes.HasPrefix(was, is) {
			t.Errorf("keep %d: %q of %q", keep, is, was)
		}
	}
}

// P9.5: fifteen full slots leave the last one its room.
func TestRoomsApart(t *testing.T) {
	d := made(t, 16, 3)
	for slot := range 15 {
		lay(t, d, slot, "abc")
		if e := d.Append(slot, []byte("d")); e != api.ErrFull {
			t.Errorf("slot %d: %d", slot, e)
		}
	}
	lay(t, d, 15, "xyz")
	if d.Loose() != 48 {
		t.Errorf("loose %d", d.Loose())
	}
}
