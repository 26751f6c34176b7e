package dispatch

import "dispatch/wire"

type connection struct {
	wire.Pending
}

func (d *Dispatcher) connection(conn int) *connection {
	c := d.connections[conn]
	if c == nil {
		c = &connection{}
		d.connections[conn] = c
	}
	return c
}
