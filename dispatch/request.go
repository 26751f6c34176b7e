package dispatch

import (
	"cmp"
	"container/heap"
	"slices"
)

type request struct {
	id       int
	conn     int // whose it is
	tenant   *tenant
	text     string
	begun    int        // how many attempts of it there have been
	again    int        // how many times it has come again
	hedged   bool       // at some time
	attempts []*attempt // those that run, in the order in which they began
}

type attempt struct {
	number    int
	request   *request
	conn      int // whose work it is
	serial    int // rises from each attempt to the next that begins, of any request
	began     int // at which time
	leaseEnds int // at which time
	place     int // in the leases
}

func (r *request) waits() bool {
	return slices.Contains(r.tenant.waiting, r)
}

// goesOn: whether a request of which an attempt was lost has what it needs.
func (r *request) goesOn() bool {
	return r.waits() || len(r.attempts) > 0
}

func heldBy(conn int) func(*attempt) bool {
	return func(a *attempt) bool { return a.conn == conn }
}

// running: the attempts that are so, in the order in which they began.
func (d *Dispatcher) running(so func(*attempt) bool) []*attempt {
	those := all(d.leases, so)
	slices.SortFunc(those, func(a, b *attempt) int {
		return cmp.Compare(a.serial, b.serial)
	})
	return those
}

// attempt: nil, if the connection has no such one.
func (d *Dispatcher) attempt(conn, id, number int) *attempt {
	r := d.requests[id]
	if r == nil {
		return nil
	}
	return find(r.attempts, func(a *attempt) bool {
		return a.number == number && a.conn == conn
	})
}

// handOut: as long as there is work, and a connection that waits for it.
func (d *Dispatcher) handOut(t *talk) {
	for len(d.pullers) > 0 {
		who := find(d.ring, func(one *tenant) bool {
			return one.running < d.config.Cap
		})
		if who == nil {
			return
		}
		conn, r := d.pullers[0], who.waiting[0]
		d.waitForWorkNoMore(conn)
		d.waitNoMore(r)
		d.turnIsOver(who)
		d.begin(t, conn, r)
	}
}

func (d *Dispatcher) begin(t *talk, conn int, r *request) {
	d.begun++
	r.begun++
	a := &attempt{
		number:    r.begun,
		request:   r,
		conn:      conn,
		serial:    d.begun,
		began:     d.now,
		leaseEnds: d.now + d.config.Lease,
	}
	r.attempts = append(r.attempts, a)
	r.tenant.running++
	heap.Push(&d.leases, a)
	t.say(conn, "run", r.id, a.number, r.tenant.name, r.text)
}

// end: behind what is said of it, and ahead of what comes of it, as the bye that
// may be due stands between these.
func (d *Dispatcher) end(t *talk, a *attempt) {
	r := a.request
	r.attempts = without(r.attempts, a)
	r.tenant.running--
	heap.Remove(&d.leases, a.place)
	d.byeIfDrained(t, a.conn)
}

func (d *Dispatcher) stop(t *talk, a *attempt) {
	t.say(a.conn, "stop", a.request.id, a.number)
	d.end(t, a)
}

func (d *Dispatcher) shut(t *talk, r *request) {
	for len(r.attempts) > 0 {
		d.stop(t, r.attempts[0])
	}
	d.waitNoMore(r)
	delete(d.requests, r.id)
	// An open request waits or runs: of a tenant who has neither, none is open.
	if who := r.tenant; len(who.waiting) == 0 && who.running == 0 {
		delete(d.tenants, who.name)
	}
}
