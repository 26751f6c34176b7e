package dispatch

import (
	"cmp"
	"slices"
)

func (d *Dispatcher) drain(t *talk, conn int) {
	c := d.connection(conn)
	if c.drains {
		return
	}
	c.drains = true
	d.waitForWorkNoMore(conn)
	d.byeIfDrained(t, conn)
}

// byeIfDrained: asked where a connection begins to drain, and where an attempt
// of it ends. Who drains gets no more of them, so this holds once.
func (d *Dispatcher) byeIfDrained(t *talk, conn int) {
	if d.drains(conn) && find(d.leases, heldBy(conn)) == nil {
		t.say(conn, "bye")
	}
}

// forget: ahead of all that comes of it, so that nothing is said to it.
func (d *Dispatcher) forget(conn int) {
	delete(d.connections, conn)
	d.waitForWorkNoMore(conn)
}

func (d *Dispatcher) shutRequestsOf(t *talk, conn int) {
	for _, r := range d.requestsOf(conn) {
		for _, a := range all(r.attempts, heldBy(conn)) {
			d.end(t, a)
		}
		d.shut(t, r)
	}
}

// requestsOf: the open ones of a connection, by their numbers rising.
func (d *Dispatcher) requestsOf(conn int) []*request {
	var those []*request
	for _, r := range d.requests {
		if r.conn == conn {
			those = append(those, r)
		}
	}
	slices.SortFunc(those, func(a, b *request) int {
		return cmp.Compare(a.id, b.id)
	})
	return those
}

// giveBackAttemptsOf: who leaves has not failed, so this is not counted.
func (d *Dispatcher) giveBackAttemptsOf(t *talk, conn int) {
	for _, a := range d.running(heldBy(conn)) {
		d.end(t, a)
		if !a.request.goesOn() {
			d.waitFirst(a.request)
		}
	}
}
