package dispatch

import "dispatch/wire"

type connection struct {
	wire.Pending
	drains bool
}

func (d *Dispatcher) connection(conn int) *connection {
	c := d.connections[conn]
	if c == nil {
		c = &connection{}
		d.connections[conn] = c
	}
	return c
}

// isNew: whether it is as one that never was, and need not be kept.
func (c *connection) isNew() bool {
	return c.Empty() && !c.drains
}

func (d *Dispatcher) drains(conn int) bool {
	c := d.connections[conn]
	return c != nil && c.drains
}
