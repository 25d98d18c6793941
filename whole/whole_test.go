package whole_test

import (
	"testing"

	"bailey/api"
	"bailey/pack"
	"bailey/whole"
)

// pair is a text and a number, which may be 1 to 5.
type pair struct {
	s string
	n int
}

func read(r *pack.Reader) pair { return pair{r.Text(3), r.Num(5)} }

func fits(p pair) bool { return p.n > 0 }

func TestRead(t *testing.T) {
	for b, want := range map[string]struct {
		p pair
		e api.Errno
	}{
		"\x00\x01":         {pair{"", 1}, api.OK},
		"\x03abc\x05":      {pair{"abc", 5}, api.OK},
		"":                 {pair{}, api.ErrShort},
		"\x03ab":           {pair{}, api.ErrShort},
		"\x03abc":          {pair{}, api.ErrShort},
		"\x04abcd\x01":     {pair{}, api.ErrLong},
		"\x01a\x06":        {pair{}, api.ErrLong},
		"\x01a\x80\x01":    {pair{}, api.ErrForm},
		"\x01a\x00":        {pair{}, api.ErrForm},
		"\x01a\x00more":    {pair{}, api.ErrForm},
		"\x01a\x01\x00":    {pair{}, api.ErrForm},
		"\x04abcd\x00\x00": {pair{}, api.ErrLong},
	} {
		if p, e := whole.Read([]byte(b), read, fits); p != want.p || e != want.e {
			t.Errorf("%x: %+v, %d", b, p, e)
		}
	}
	if _, e := whole.Read(nil, read, fits); e != api.ErrShort {
		t.Errorf("of no bytes: %d", e)
	}
}

// What the reader answered keeps nothing of the bytes.
func TestApart(t *testing.T) {
	b := []byte("\x03abc\x05")
	p, _ := whole.Read(b, read, fits)
	clear(b)
	if p != (pair{"abc", 5}) {
		t.Errorf("%+v", p)
	}
}
