package dispatch

import (
	"slices"
	"strconv"
	"testing"

	"dispatch/api"
)

// step: a message of a connection ("tick" and "close" are those calls), and what
// is said by it: "5 run 1 1 a p" is said to connection 5.
type step struct {
	conn int
	text string
	said []string
}

func said(lines ...string) []string { return lines }

func call(d *Dispatcher, conn int, text string) []api.Out {
	switch text {
	case "tick":
		return d.Tick()
	case "close":
		return d.Close(conn)
	}
	return d.Feed(conn, ended(text))
}

// words: what was said, in the form of a step.
func words(outs []api.Out) []string {
	var list []string
	for _, o := range outs {
		text := o.Line[:max(0, len(o.Line)-9)]
		if Seal(text) != o.Line {
			text = "(not sealed) " + o.Line
		}
		list = append(list, strconv.Itoa(o.Conn)+" "+text)
	}
	return list
}

func play(t *testing.T, d *Dispatcher, steps ...step) {
	t.Helper()
	for i, s := range steps {
		if got := words(call(d, s.conn, s.text)); !slices.Equal(got, s.said) {
			t.Fatalf("step %d, %d %q: %q, want %q", i, s.conn, s.text, got, s.said)
		}
	}
}

func beginWith(t *testing.T, c api.Config) *Dispatcher {
	t.Helper()
	d, e := New(c)
	if d == nil || e != api.OK {
		t.Fatalf("New(%v) = %v, %d", c, d, e)
	}
	return d
}

func expectLook(t *testing.T, d *Dispatcher, want api.Look) {
	t.Helper()
	if got := d.Look(); got != want {
		t.Errorf("Look: %v, want %v", got, want)
	}
}

// expectNothingKept: of requests and tenants that are no more.
func expectNothingKept(t *testing.T, d *Dispatcher) {
	t.Helper()
	if len(d.requests)+len(d.tenants)+len(d.ring)+len(d.pullers)+len(d.leases)+len(d.connections) != 0 {
		t.Errorf("kept: %v %v %v %v %v %v", d.requests, d.tenants, d.ring, d.pullers, d.leases, d.connections)
	}
}
