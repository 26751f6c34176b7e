// Package dispatch: requests of tenants, handed out to who pulls: see DOC.md.
package dispatch

import (
	"strings"

	"dispatch/api"
	"dispatch/message"
	"dispatch/wire"
)

const lineEnd = "\n"

// Dispatcher: of a configuration.
type Dispatcher struct {
	config      api.Config
	now         int
	connections map[int]*connection
	requests    map[int]*request   // the open ones
	tenants     map[string]*tenant // those of whom a request is open
	ring        []*tenant          // those of whom a request waits, in the order of their turns
	pullers     []int              // the connections that wait for work, the longest first
	leases      leases             // of the attempts that run
	begun       int                // how many attempts there have been
}

// New: an empty one (P2).
func New(c api.Config) (*Dispatcher, api.Errno) {
	if !isConfig(c) {
		return nil, api.ErrConfig
	}
	return &Dispatcher{
		config:      c,
		connections: map[int]*connection{},
		requests:    map[int]*request{},
		tenants:     map[string]*tenant{},
	}, api.OK
}

// Seal: a text as a line (P2).
func Seal(text string) string { return wire.Seal(text) }

// Feed: bytes of a connection (P3).
func (d *Dispatcher) Feed(conn int, bytes string) []api.Out {
	if !d.made() {
		return nil
	}
	var t talk
	c := d.connection(conn)
	for {
		piece, rest, ended := strings.Cut(bytes, lineEnd)
		c.Add(piece)
		if !ended {
			break
		}
		d.handle(&t, conn, c.End())
		bytes = rest
	}
	// Most connections have nothing to be kept, and so take no room.
	if c.isNew() {
		delete(d.connections, conn)
	}
	return t.outs
}

// Tick: time goes on (P8).
func (d *Dispatcher) Tick() []api.Out {
	if !d.made() {
		return nil
	}
	var t talk
	d.now++
	d.endLeases(&t)
	d.hedge()
	d.handOut(&t)
	return t.outs
}

// Close: a connection is no more (P10).
func (d *Dispatcher) Close(conn int) []api.Out {
	if !d.made() {
		return nil
	}
	var t talk
	d.forget(conn)
	d.shutRequestsOf(&t, conn)
	d.giveBackAttemptsOf(&t, conn)
	d.handOut(&t)
	return t.outs
}

// Look: what there is (P6).
func (d *Dispatcher) Look() api.Look {
	if !d.made() {
		return api.Look{}
	}
	look := api.Look{Now: d.now, Running: len(d.leases), Waiting: len(d.pullers)}
	for _, who := range d.tenants {
		look.Queued += len(who.waiting)
	}
	return look
}

// made: no call may panic, not even one on a dispatcher that New did not make.
func (d *Dispatcher) made() bool {
	return d != nil && d.connections != nil
}

func (d *Dispatcher) handle(t *talk, conn int, line string) {
	text, sealed := wire.Open(line)
	m, known := message.Read(text)
	if !sealed || !known {
		t.say(conn, "bad")
		return
	}
	d.obey(t, conn, m)
	d.handOut(t)
}
