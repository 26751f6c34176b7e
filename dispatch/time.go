package dispatch

import "container/heap"

func (d *Dispatcher) beat(conn int) {
	// They are gathered ahead: a lease that is renewed changes its place.
	for _, a := range all(d.leases, heldBy(conn)) {
		a.leaseEnds = d.now + d.config.Lease
		heap.Fix(&d.leases, a.place)
	}
}

func (d *Dispatcher) endLeases(t *talk) {
	for len(d.leases) > 0 && d.leases[0].leaseEnds <= d.now {
		a := d.leases[0]
		d.stop(t, a)
		d.comeAgain(t, a.request)
	}
}

// comeAgain: a request of which an attempt was lost.
func (d *Dispatcher) comeAgain(t *talk, r *request) {
	switch {
	case r.goesOn():
		// This counts for nothing.
	case r.again >= d.config.Retries:
		t.say(r.conn, "err", r.id)
		d.shut(t, r)
	default:
		r.again++
		d.waitFirst(r)
	}
}

func (d *Dispatcher) hedge() {
	if d.config.Hedge == 0 {
		return
	}
	// Only a request that has been hedged waits beside an attempt, or has two of
	// them. So each of these is its request's alone, and that does not wait.
	slow := d.running(func(a *attempt) bool {
		return a.began <= d.now-d.config.Hedge && !a.request.hedged
	})
	for _, a := range slow {
		a.request.hedged = true
		d.waitLast(a.request)
	}
}
