package dispatch

import (
	"slices"

	"dispatch/message"
)

func (d *Dispatcher) obey(t *talk, conn int, m message.Message) {
	switch m.Verb {
	case message.Sub:
		d.submit(t, conn, m)
	case message.Can:
		d.cancel(t, conn, m.ID)
	case message.Pull:
		d.pull(conn)
	case message.Beat:
		d.beat(conn)
	case message.Done:
		d.done(t, conn, m)
	case message.Fail:
		d.fail(t, conn, m)
	case message.Drain:
		d.drain(t, conn)
	}
}

func (d *Dispatcher) submit(t *talk, conn int, m message.Message) {
	if d.requests[m.ID] != nil {
		t.say(conn, "rej", m.ID, "dup")
		return
	}
	who := d.tenant(m.Tenant)
	if len(who.waiting) >= d.config.Bound {
		t.say(conn, "rej", m.ID, "full")
		return
	}
	r := &request{id: m.ID, conn: conn, tenant: who, text: m.Text}
	d.requests[r.id] = r
	d.waitLast(r)
	t.say(conn, "acc", r.id)
}

func (d *Dispatcher) cancel(t *talk, conn int, id int) {
	r := d.requests[id]
	if r == nil || r.conn != conn {
		t.say(conn, "none", id)
		return
	}
	t.say(conn, "gone", id)
	d.shut(t, r)
}

func (d *Dispatcher) pull(conn int) {
	if !d.drains(conn) && !slices.Contains(d.pullers, conn) {
		d.pullers = append(d.pullers, conn)
	}
}

// waitForWorkNoMore: also of a connection that does not wait.
func (d *Dispatcher) waitForWorkNoMore(conn int) {
	d.pullers = without(d.pullers, conn)
}

func (d *Dispatcher) done(t *talk, conn int, m message.Message) {
	a := d.attempt(conn, m.ID, m.Attempt)
	if a == nil {
		return
	}
	r := a.request
	t.say(r.conn, "val", r.id, m.Text)
	d.end(t, a)
	d.shut(t, r)
}

func (d *Dispatcher) fail(t *talk, conn int, m message.Message) {
	a := d.attempt(conn, m.ID, m.Attempt)
	if a == nil {
		return
	}
	d.end(t, a)
	d.comeAgain(t, a.request)
}
