// Package dispatch: requests of tenants, handed out to who pulls: see DOC.md.
package dispatch

import (
	"strings"

	"dispatch/api"
	"dispatch/message"
	"dispatch/wire"
)

const lineEnd = "\n"

// Dispatcher: of a configuration.
type Dispatcher struct {
	connections map[int]*connection
}

// New: an empty one (P2).
func New(c api.Config) (*Dispatcher, api.Errno) {
	if !isConfig(c) {
		return nil, api.ErrConfig
	}
	return &Dispatcher{connections: map[int]*connection{}}, api.OK
}

// Seal: a text as a line (P2).
func Seal(text string) string { return wire.Seal(text) }

// Feed: bytes of a connection (P3).
func (d *Dispatcher) Feed(conn int, bytes string) []api.Out {
	if !d.made() {
		return nil
	}
	var t talk
	c := d.connection(conn)
	for {
		piece, rest, ended := strings.Cut(bytes, lineEnd)
		c.Add(piece)
		if !ended {
			break
		}
		handle(&t, conn, c.End())
		bytes = rest
	}
	// A connection of which nothing is to be known takes no room.
	if c.Empty() {
		delete(d.connections, conn)
	}
	return t.outs
}

// Tick: time goes on (P8).
func (d *Dispatcher) Tick() []api.Out { return nil }

// Close: a connection is no more (P10).
func (d *Dispatcher) Close(conn int) []api.Out {
	if d.made() {
		delete(d.connections, conn)
	}
	return nil
}

// Look: what there is (P6).
func (d *Dispatcher) Look() api.Look { return api.Look{} }

// made: no call may panic, not even one on a dispatcher that New did not make.
func (d *Dispatcher) made() bool {
	return d != nil && d.connections != nil
}

func handle(t *talk, conn int, line string) {
	text, ok := wire.Open(line)
	if !ok || !message.Is(text) {
		t.say(conn, "bad")
	}
}
