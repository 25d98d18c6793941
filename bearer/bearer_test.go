package bearer_test

import (
	"strings"
	"testing"

	"bailey/api"
	"bailey/bearer"
	"bailey/pack"
	"bailey/token"
)

var tag = strings.Repeat("t", 32)

// good are tokens, or none, and their bytes.
func good() []struct {
	t api.Token
	b string
} {
	return []struct {
		t api.Token
		b string
	}{
		{api.Token{}, "\x00"},
		{api.Token{Caveats: []api.Caveat{}}, "\x00"},
		{api.Token{ID: 1, Tag: tag}, "\x01\x00\x01\x00\x00\x20" + tag},
		{api.Token{Lane: 4, ID: 2, Epoch: 3, Caveats: []api.Caveat{{Kind: 4, Num: 5}}, Tag: tag}, "\x01\x04\x02\x03\x01\x04\x05\x20" + tag},
	}
}

func TestThereAndBack(t *testing.T) {
	for _, g := range good() {
		if !bearer.Fits(g.t) {
			t.Errorf("%+v does not fit", g.t)
		}
		room := append(make([]byte, 0, 99), "ahead"...)
		if b := bearer.Put(room, g.t); string(b) != "ahead"+g.b || string(room[:6]) != "ahead\x00" {
			t.Errorf("%+v: %x, %x", g.t, b, room[:6])
		}
		r := pack.Open([]byte(g.b + "\x80"))
		if back := bearer.Read(r); !token.Same(back, g.t) || r.Err() != api.OK || r.Left() != 1 {
			t.Errorf("%x: %+v, %d, %d are left", g.b, back, r.Err(), r.Left())
		}
	}
}

func TestFitsNot(t *testing.T) {
	for _, x := range []api.Token{
		{Lane: 1}, {Lane: -1}, {ID: 1}, {Epoch: 1}, {Tag: "t"}, {Tag: tag}, {Caveats: make([]api.Caveat, 1)},
		{ID: 1, Tag: tag[1:]}, {Lane: 5, ID: 1, Tag: tag}, {ID: 1, Tag: tag, Caveats: make([]api.Caveat, 1)},
	} {
		if bearer.Fits(x) {
			t.Errorf("%+v fits", x)
		}
	}
}

func TestReadWrong(t *testing.T) {
	for b, want := range map[string]api.Errno{
		"": api.ErrShort, "\x01": api.ErrShort, "\x01\x00\x01\x00\x00\x20" + tag[1:]: api.ErrShort,
		"\x02": api.ErrForm, "\xff": api.ErrForm, "\x01\x00\x00\x00\x00\x00": api.ErrForm, "\x01\x00\x00\x00\x00\x20" + tag: api.ErrForm,
		"\x01\x05\x01\x00\x00\x20" + tag: api.ErrLong,
	} {
		r := pack.Open([]byte(b))
		if x := bearer.Read(r); !token.Same(x, api.Token{}) || r.Err() != want {
			t.Errorf("%x: %+v, %d", b, x, r.Err())
		}
	}
	if x := bearer.Read(nil); !token.Same(x, api.Token{}) {
		t.Errorf("of no reader: %+v", x)
	}
}
