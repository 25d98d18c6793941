package replica

import "bailey/api"

// waiter is who waits for an entry, or with a ticket for a read.
type waiter struct {
	id, client, seq int
	index, term     int
	ticket          int // 0: it is no read
	asked           api.Command
}

// line is who waits, in the order in which they came.
type line []waiter

// join lets w wait behind all others.
func (l *line) join(w waiter) { *l = append(*l, w) }

// leave takes those who go out of the line, and answers them.
func (l *line) leave(goes func(waiter) bool) []waiter {
	var gone, stay []waiter
	for _, w := range *l {
		if goes(w) {
			gone = append(gone, w)
		} else {
			stay = append(stay, w)
		}
	}
	*l = stay
	return gone
}

// upto tells those who wait for an entry up to that index from others.
func upto(index int) func(waiter) bool {
	return func(w waiter) bool { return !w.reads() && w.index <= index }
}

// at tells who waits for the entry of that index from others.
func at(index int) func(waiter) bool {
	return func(w waiter) bool { return !w.reads() && w.index == index }
}

// bearing tells who waits with that ticket from others.
func bearing(ticket int) func(waiter) bool {
	return func(w waiter) bool { return w.ticket == ticket }
}

// reads tells whether w waits for a read.
func (w waiter) reads() bool { return w.ticket != 0 }

// writes tells whether w waits for an entry.
func (w waiter) writes() bool { return !w.reads() }

// answer is that answer's bytes, told to w.
func (w waiter) answer(b []byte) api.Answer {
	return api.Answer{ID: w.id, Client: w.client, Seq: w.seq, Bytes: b}
}
