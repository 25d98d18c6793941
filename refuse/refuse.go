// Package refuse is no layer of its own, but what layers lean on that look at
// one thing behind the other, each of which may be refused: a refusal is
// thrown, past all that would come behind it, and caught where the call began.
package refuse

import "bailey/api"

// refusal is what is thrown: by its type it is told from a fault of the program.
type refusal struct{ why api.Errno }

// Unless throws the error, unless ok.
func Unless(ok bool, why api.Errno) {
	if !ok {
		panic(refusal{why})
	}
}

// With throws the error, if it is one.
func With(why api.Errno) { Unless(why == api.OK, why) }

// Got answers x, unless there is an error beside it, which it throws.
func Got[T any](x T, why api.Errno) T {
	With(why)
	return x
}

// Caught answers the error of what was thrown, as recover answers it: OK, if
// that is nothing. What is no refusal is thrown on.
func Caught(thrown any) api.Errno {
	switch x := thrown.(type) {
	case nil:
		return api.OK
	case refusal:
		return x.why
	}
	panic(thrown)
}
