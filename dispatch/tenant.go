package dispatch

import "slices"

type tenant struct {
	name    string
	waiting []*request // in the order in which they wait
	running int        // attempts of its requests
}

func (d *Dispatcher) tenant(name string) *tenant {
	who := d.tenants[name]
	if who == nil {
		who = &tenant{name: name}
		d.tenants[name] = who
	}
	return who
}

func (d *Dispatcher) waitFirst(r *request) { d.wait(r, 0) }

func (d *Dispatcher) waitLast(r *request) { d.wait(r, len(r.tenant.waiting)) }

// wait: a request that does not wait begins to, at a place among its tenant's.
func (d *Dispatcher) wait(r *request, place int) {
	who := r.tenant
	if len(who.waiting) == 0 {
		d.ring = append(d.ring, who)
	}
	who.waiting = slices.Insert(who.waiting, place, r)
}

// waitNoMore: also of a request that does not wait.
func (d *Dispatcher) waitNoMore(r *request) {
	who := r.tenant
	who.waiting = without(who.waiting, r)
	if len(who.waiting) == 0 {
		d.ring = without(d.ring, who)
	}
}

// turnIsOver: the tenant comes to the ring's end, if it is still in it.
func (d *Dispatcher) turnIsOver(who *tenant) {
	if len(who.waiting) > 0 {
		d.ring = append(without(d.ring, who), who)
	}
}
