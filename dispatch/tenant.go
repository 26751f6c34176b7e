package dispatch

type tenant struct {
	name    string
	waiting []*request // in the order in which they wait
	running int        // attempts of its requests
}

func (d *Dispatcher) tenant(name string) *tenant {
	who := d.tenants[name]
	if who == nil {
		who = &tenant{name: name}
		d.tenants[name] = who
	}
	return who
}

// waitLast: a request that does not wait begins to, as its tenant's last.
func (d *Dispatcher) waitLast(r *request) {
	who := r.tenant
	if len(who.waiting) == 0 {
		d.ring = append(d.ring, who)
	}
	who.waiting = append(who.waiting, r)
}

// waitNoMore: also of a request that does not wait.
func (d *Dispatcher) waitNoMore(r *request) {
	who := r.tenant
	who.waiting = without(who.waiting, r)
	if len(who.waiting) == 0 {
		d.ring = without(d.ring, who)
	}
}

// turnIsOver: the tenant comes to the ring's end, if it is still in it.
func (d *Dispatcher) turnIsOver(who *tenant) {
	if len(who.waiting) > 0 {
		d.ring = append(without(d.ring, who), who)
	}
}
