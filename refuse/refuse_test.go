package refuse_test

import (
	"errors"
	"testing"

	"bailey/api"
	"bailey/refuse"
)

// of tells what is caught of what f throws, and whether f went on to its end.
func of(f func()) (e api.Errno, ended bool) {
	defer func() { e = refuse.Caught(recover()) }()
	f()
	ended = true
	return api.OK, ended
}

func TestUnless(t *testing.T) {
	for _, why := range []api.Errno{api.ErrArg, api.ErrDenied, api.ErrOrder} {
		if e, ended := of(func() { refuse.Unless(false, why) }); e != why || ended {
			t.Errorf("%d: %d, %v", why, e, ended)
		}
		if e, ended := of(func() { refuse.Unless(true, why) }); e != api.OK || !ended {
			t.Errorf("not %d: %d, %v", why, e, ended)
		}
	}
}

func TestWith(t *testing.T) {
	for _, why := range []api.Errno{api.ErrArg, api.ErrDenied, api.ErrOrder} {
		if e, ended := of(func() { refuse.With(why) }); e != why || ended {
			t.Errorf("%d: %d, %v", why, e, ended)
		}
	}
	if e, ended := of(func() { refuse.With(api.OK) }); e != api.OK || !ended {
		t.Errorf("of OK: %d, %v", e, ended)
	}
}

func TestGot(t *testing.T) {
	got := 0
	if e, ended := of(func() { got = refuse.Got(5, api.OK) }); e != api.OK || !ended || got != 5 {
		t.Errorf("%d: %d, %v", got, e, ended)
	}
	if e, ended := of(func() { got = refuse.Got(6, api.ErrNone) }); e != api.ErrNone || ended || got != 5 {
		t.Errorf("%d: %d, %v", got, e, ended)
	}
}

// The first refusal is caught, from whatever depth.
func TestFirst(t *testing.T) {
	inner := func() { refuse.With(api.ErrHeld) }
	if e, ended := of(func() { inner(); refuse.With(api.ErrArg) }); e != api.ErrHeld || ended {
		t.Errorf("%d, %v", e, ended)
	}
}

// A fault of the program is no refusal: it goes on.
func TestFault(t *testing.T) {
	for _, fault := range []any{"a fault", 7, api.ErrArg, errors.New("fault")} {
		func() {
			defer func() {
				if thrown := recover(); thrown != fault {
					t.Errorf("%v: %v", fault, thrown)
				}
			}()
			of(func() { panic(fault) })
			t.Errorf("%v is caught", fault)
		}()
	}
}
