package chunk_test

import (
	"fmt"
	"math/rand"
	"slices"
	"testing"

	"bailey/api"
	"bailey/chunk"
)

// model is a store as a plain list, held against the store.
type model struct {
	room  int
	files []api.File
}

func (m *model) find(sum string) int {
	return slices.IndexFunc(m.files, func(f api.File) bool { return f.Sum == sum })
}

func (m *model) used() int {
	n := 0
	for _, f := range m.files {
		n += len(f.Bytes)
	}
	return n
}

// put is the chapter's Put, of the words alone.
func (m *model) put(text string, time int) (string, api.Errno, string) {
	if len(text) < 1 || len(text) > 256 {
		return "", api.ErrArg, "no piece"
	}
	how := "again"
	i := m.find(sum(text))
	if i < 0 {
		if m.used()+len(text) > m.room {
			return "", api.ErrFull, "full"
		}
		m.files = append(m.files, file(text, 0))
		how = "new"
	} else if string(m.files[i].Bytes) != text {
		if m.used()-len(m.files[i].Bytes)+len(text) > m.room {
			return "", api.ErrFull, "rotten, full"
		}
		m.files[i].Bytes, m.files[i].Sure = []byte(text), 0
		how = "rotten"
	}
	i = m.find(sum(text))
	m.files[i].Times = append(m.files[i].Times, time)
	slices.Sort(m.files[i].Times)
	m.files[i].Times = slices.Compact(m.files[i].Times)
	slices.SortFunc(m.files, func(a, b api.File) int { return slices.Compare([]byte(a.Sum), []byte(b.Sum)) })
	return sum(text), api.OK, how
}

// drop takes the files that are to go: their sums.
func (m *model) drop(goes func(api.File) bool) []string {
	var gone []string
	var stay []api.File
	for _, f := range m.files {
		if goes(f) {
			gone = append(gone, f.Sum)
		} else {
			stay = append(stay, f)
		}
	}
	m.files = stay
	return gone
}

func intact(f api.File) bool { return sum(string(f.Bytes)) == f.Sum }

func (m *model) crash(keeps []int) {
	turn := 0
	for i := range m.files {
		f := &m.files[i]
		loose := len(f.Bytes) - f.Sure
		if loose == 0 {
			continue
		}
		stay := 0
		if len(keeps) > 0 {
			stay = min(max(keeps[turn%len(keeps)], 0), loose)
		}
		turn++
		f.Bytes = f.Bytes[:f.Sure+stay]
		f.Sure = len(f.Bytes)
	}
	m.drop(func(f api.File) bool { return len(f.Bytes) == 0 })
}

// numbers are so many of any numbers from -2 to most.
func numbers(r *rand.Rand, n, most int) []int {
	var l []int
	for range n {
		l = append(l, r.Intn(most+3)-2)
	}
	return l
}

// P28.1 to P28.5: the store is as the model, whatever happens.
func TestPlay(t *testing.T) {
	seen := map[string]int{}
	for seed := range 200 {
		r := rand.New(rand.NewSource(int64(seed)))
		room := []int{4, 7, 30, 500}[seed%4]
		s, m := made(t, room), &model{room: room}
		for step := range 400 {
			what := play(t, r, s, m)
			seen[what]++
			holds(t, fmt.Sprint("seed ", seed, ", step ", step, ": ", what), s, m.files...)
			if t.Failed() {
				return
			}
			if s.Used() > room {
				t.Fatalf("used %d of %d", s.Used(), room)
			}
		}
	}
	for _, what := range []string{"no piece", "again", "new", "rotten", "full", "rotten, full", "swept", "scrubbed", "crashed", "rots", "synced", "got", "corrupt", "none"} {
		if seen[what] < 20 {
			t.Errorf("%s: %d times", what, seen[what])
		}
	}
}

// play does one thing to both, and tells what.
func play(t *testing.T, r *rand.Rand, s *chunk.Store, m *model) string {
	text := fmt.Sprintf("%0*d", r.Intn(5), r.Intn(12))
	if r.Intn(20) == 0 {
		text = []string{"", string(make([]byte, 256+r.Intn(3)))}[r.Intn(2)]
	}
	switch n := r.Intn(20); {
	case n < 9:
		time := r.Intn(12)
		want, e, how := m.put(text, time)
		if got, f := s.Put([]byte(text), time); got != want || e != f {
			t.Fatalf("Put(%q, %d): %x, %d, not %x, %d: %s", text, time, got, f, want, e, how)
		}
		return how
	case n < 12 || n == 19:
		return get(t, s, m, text)
	case n < 13:
		n := s.Loose()
		if got := s.Sync(); got != n {
			t.Fatalf("Sync: %d, not %d", got, n)
		}
		for i := range m.files {
			m.files[i].Sure = len(m.files[i].Bytes)
		}
		return "synced"
	case n < 15:
		keeps := numbers(r, 1+r.Intn(3), 4)[r.Intn(2):]
		s.Crash(keeps)
		m.crash(keeps)
		return "crashed"
	case n < 17:
		i, at, bits := r.Intn(50)-25, r.Intn(50)-25, r.Intn(1000)-500
		if n := len(m.files); n > 0 {
			b := m.files[(i%n+n)%n].Bytes
			b[(at%len(b)+len(b))%len(b)] ^= byte(bits)
		}
		if s.Rot(i, at, bits) != (len(m.files) > 0) {
			t.Fatalf("Rot of %d files", len(m.files))
		}
		return "rots"
	case n < 18:
		want := m.drop(func(f api.File) bool { return !intact(f) })
		if got := s.Scrub(); !slices.Equal(got, want) {
			t.Fatalf("Scrub: %x, not %x", got, want)
		}
		return "scrubbed"
	}
	return sweep(t, r, s, m)
}

func get(t *testing.T, s *chunk.Store, m *model, text string) string {
	i, want, e, how := m.find(sum(text)), "", api.ErrNone, "none"
	if i >= 0 && intact(m.files[i]) {
		want, e, how = text, api.OK, "got"
	} else if i >= 0 {
		e, how = api.ErrCorrupt, "corrupt"
	}
	if b, f := s.Get(sum(text)); string(b) != want || f != e || s.Has(sum(text)) != (e == api.OK) {
		t.Fatalf("Get of %q: %q, %d, not %d", text, b, f, e)
	}
	return how
}

func sweep(t *testing.T, r *rand.Rand, s *chunk.Store, m *model) string {
	time, live := r.Intn(14), numbers(r, r.Intn(4), 12)
	var needs []string
	for _, f := range m.files {
		if r.Intn(3) == 0 {
			needs = append(needs, f.Sum)
		}
	}
	gone := m.drop(func(f api.File) bool {
		for _, x := range f.Times {
			if x >= time || slices.Contains(live, x) {
				return false
			}
		}
		return !slices.Contains(needs, f.Sum)
	})
	if n := s.Sweep(time, needs, live); n != len(gone) {
		t.Fatalf("Sweep: %d, not %d", n, len(gone))
	}
	return "swept"
}
