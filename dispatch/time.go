package dispatch

import (
	"cmp"
	"container/heap"
	"slices"
)

func (d *Dispatcher) beat(conn int) {
	// They are gathered ahead: a lease that is renewed changes its place.
	mine := all(d.leases, func(a *attempt) bool { return a.conn == conn })
	for _, a := range mine {
		a.leaseEnds = d.now + d.config.Lease
		heap.Fix(&d.leases, a.place)
	}
}

func (d *Dispatcher) endLeases(t *talk) {
	for len(d.leases) > 0 && d.leases[0].leaseEnds <= d.now {
		a := d.leases[0]
		d.stop(t, a)
		d.comeAgain(t, a.request)
	}
}

// comeAgain: a request of which an attempt was lost.
func (d *Dispatcher) comeAgain(t *talk, r *request) {
	switch {
	case r.waits() || len(r.attempts) > 0:
		// It goes on without the one that was lost, and this counts for nothing.
	case r.again >= d.config.Retries:
		t.say(r.conn, "err", r.id)
		d.shut(t, r)
	default:
		r.again++
		d.waitFirst(r)
	}
}

func (d *Dispatcher) hedge() {
	if d.config.Hedge == 0 {
		return
	}
	// Only a request that has been hedged waits beside an attempt, or has two of
	// them. So each of these is its request's alone, and that does not wait.
	slow := all(d.leases, func(a *attempt) bool {
		return a.began <= d.now-d.config.Hedge && !a.request.hedged
	})
	slices.SortFunc(slow, func(a, b *attempt) int {
		return cmp.Compare(a.serial, b.serial)
	})
	for _, a := range slow {
		a.request.hedged = true
		d.waitLast(a.request)
	}
}
