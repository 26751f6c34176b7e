package dispatch

import (
	"math"
	"slices"
	"strconv"
	"strings"
	"testing"

	"dispatch/api"
)

func plainConfig() api.Config {
	return api.Config{Lease: 3, Retries: 1, Cap: 1, Bound: 2, Hedge: 2}
}

func begin(t *testing.T) *Dispatcher {
	t.Helper()
	return beginWith(t, plainConfig())
}

func ended(text string) string { return Seal(text) + "\n" }

func bads(conn, times int) []api.Out {
	return slices.Repeat([]api.Out{{Conn: conn, Line: "bad 62616400"}}, times)
}

// countBad: what is said of messages is not asked here, but that none is bad.
func countBad(outs []api.Out) int {
	n := 0
	for _, o := range outs {
		if o.Line == Seal("bad") {
			n++
		}
	}
	return n
}

func expect(t *testing.T, what string, got, want []api.Out) {
	t.Helper()
	if !slices.Equal(got, want) {
		t.Errorf("%s: %v, want %v", what, got, want)
	}
}

// P1

func TestNoCallPanics(t *testing.T) {
	numbers := []int{math.MinInt, -1, 0, 1, math.MaxInt}
	texts := []string{"", "\n", "\x00", "\xff\n", "\n\n\n", " \n", " 00000000\n", ended("pull"), ended("beat") + ended("fail 1 1"), ended("drain") + ended("drain"), ended("sub 1 a x") + ended("pull") + ended("fail 1 1") + ended("beat") + ended("done 1 1 v") + ended("can 1") + ended("sub 2 a x") + ended("pull") + "pul", strings.Repeat("\xf0\x9f", 100000) + "\n"}
	unmade := []*Dispatcher{nil, {}}
	for _, d := range append(unmade, begin(t)) {
		for _, conn := range numbers {
			for _, text := range texts {
				d.Feed(conn, text)
				d.Look()
			}
			d.Tick()
			d.Close(conn)
			d.Close(conn)
		}
	}
	for _, n := range numbers {
		New(api.Config{Lease: n, Retries: n, Cap: n, Bound: n, Hedge: n})
	}
}

func TestUnmadeDispatcherSaysNothing(t *testing.T) {
	for _, d := range []*Dispatcher{nil, {}} {
		said := slices.Concat(d.Feed(1, "\n"), d.Tick(), d.Close(1))
		if len(said) != 0 || d.Look() != (api.Look{}) {
			t.Errorf("said: %v", said)
		}
	}
}

func TestEveryByteAnywhere(t *testing.T) {
	line := Seal("sub 1 a x")
	for i := range len(line) {
		for b := range 256 {
			if byte(b) == line[i] {
				continue
			}
			changed := line[:i] + string([]byte{byte(b)}) + line[i+1:]
			want := 1
			if b == '\n' {
				want = 2
			}
			expect(t, strconv.Quote(changed), begin(t).Feed(7, changed+"\n"), bads(7, want))
		}
	}
}

func TestListsAreNew(t *testing.T) {
	d := begin(t)
	first := d.Feed(1, "\n\n\n")
	junk := api.Out{Conn: 99, Line: "junk"}
	whole := first[:cap(first)]
	for i := range whole {
		whole[i] = junk
	}
	second := d.Feed(1, "\n\n\n\n\n")
	expect(t, "behind what the caller wrote", second, bads(1, 5))
	for i, o := range whole {
		if o != junk {
			t.Errorf("place %d of the caller's list was written: %v", i, o)
		}
	}
	third := append(second, junk)
	d.Feed(2, "\n\n\n")
	expect(t, "the list of the call before", second, bads(1, 5))
	if third[5] != junk {
		t.Errorf("behind the end of the list: %v", third[5])
	}
}

func TestDispatchersDoNotHangOnEachOther(t *testing.T) {
	a, b := begin(t), begin(t)
	a.Feed(1, "pull")
	expect(t, "the other one's line", b.Feed(1, " 70756c6c\n"), bads(1, 1))
	b.Feed(1, "xx")
	b.Close(1)
	if outs := a.Feed(1, " 70756c6c\n"); countBad(outs) != 0 {
		t.Errorf("a line in pieces: %v", outs)
	}
}

// P2

func TestConfigBounds(t *testing.T) {
	for name, field := range map[string]struct {
		low, high int
		set       func(*api.Config, int)
	}{
		"Lease":   {1, 20, func(c *api.Config, n int) { c.Lease = n }},
		"Retries": {0, 5, func(c *api.Config, n int) { c.Retries = n }},
		"Cap":     {1, 5, func(c *api.Config, n int) { c.Cap = n }},
		"Bound":   {1, 8, func(c *api.Config, n int) { c.Bound = n }},
		"Hedge":   {0, 20, func(c *api.Config, n int) { c.Hedge = n }},
	} {
		for _, n := range []int{math.MinInt, -1, field.low - 1, field.low, field.low + 1, field.high - 1, field.high, field.high + 1, math.MaxInt} {
			c := plainConfig()
			field.set(&c, n)
			want := api.ErrConfig
			if field.low <= n && n <= field.high {
				want = api.OK
			}
			if d, e := New(c); e != want || (d != nil) != (want == api.OK) {
				t.Errorf("%s %d: %v, %d, want %d", name, n, d, e, want)
			}
		}
	}
	if d, e := New(api.Config{}); d != nil || e != api.ErrConfig {
		t.Errorf("the zero configuration: %v, %d", d, e)
	}
}

func TestNewKnowsOfNothing(t *testing.T) {
	d := begin(t)
	if l := d.Look(); l != (api.Look{}) {
		t.Errorf("Look: %v", l)
	}
	if outs := slices.Concat(d.Feed(1, ""), d.Tick(), d.Close(1)); len(outs) != 0 {
		t.Errorf("said: %v", outs)
	}
}

func TestSeal(t *testing.T) {
	for _, c := range []struct{ text, line string }{
		{"pull", "pull 70756c6c"},
		{"", " 00000000"},
		{"sub 1 a x", "sub 1 a x 167f8780"},
		{"\n", "\n 0a000000"},
		{"\xff\xff\xff\xff\xff", "\xff\xff\xff\xff\xff fcffffff"},
		{strings.Repeat("\x00", 1000), strings.Repeat("\x00", 1000) + " 00000000"},
	} {
		if got := Seal(c.text); got != c.line {
			t.Errorf("Seal(%q) = %q, want %q", c.text, got, c.line)
		}
	}
}

// P3

func TestBadLines(t *testing.T) {
	lines := []string{"", "pull", "pull 70756c6d", "pull 70756C6C", "pull 70756c6c\r", " 00000000"}
	for _, text := range []string{"pull 1", "sub 01 a x", "sub 1 A x", "sub 1 a", "sub 1 abcdefg x", "sub 1 a 1234567890123", "sub 1 a \xff", strings.Repeat("x", 71), strings.Repeat("x", 72)} {
		lines = append(lines, Seal(text))
	}
	d := begin(t)
	for _, line := range lines {
		if outs := d.Feed(-3, line); len(outs) != 0 {
			t.Errorf("%q is not ended, but: %v", line, outs)
		}
		expect(t, strconv.Quote(line), d.Feed(-3, "\n"), bads(-3, 1))
	}
	expect(t, "all in one", d.Feed(4, strings.Join(lines, "\n")+"\n"), bads(4, len(lines)))
}

func TestMessagesAreNotBad(t *testing.T) {
	for _, text := range []string{"sub 1 a x", "sub 999999 αβγδεω éééééééééééé", "sub 1 a \ufffd", "can 1", "pull", "beat", "done 1 1 x", "fail 0 0", "drain"} {
		if outs := begin(t).Feed(1, ended(text)); countBad(outs) != 0 {
			t.Errorf("%q: %v", text, outs)
		}
	}
}

func TestPiecesOfAnySize(t *testing.T) {
	stream := ended("sub 1 αβ é") + "wrong\n" + ended("can 1") + "\n" + strings.Repeat("y", 200) + "\n" + ended("pull") + ended("pull 1") + "rest"
	whole := begin(t).Feed(5, stream)
	if n := countBad(whole); n != 4 {
		t.Fatalf("in one piece: %d are bad: %v", n, whole)
	}
	for size := 1; size <= len(stream); size++ {
		d := begin(t)
		var got []api.Out
		for piece := range slices.Chunk([]byte(stream), size) {
			got = append(got, d.Feed(5, string(piece))...)
			got = append(got, d.Feed(5, "")...)
		}
		expect(t, "in pieces of "+strconv.Itoa(size), got, whole)
	}
}

func TestLinesOfConnectionsAreTheirOwn(t *testing.T) {
	d := begin(t)
	d.Feed(1, "pull 7075")
	d.Feed(-1, "beat")
	expect(t, "an empty line of another", d.Feed(2, "\n"), bads(2, 1))
	for conn, rest := range map[int]string{1: "6c6c\n", -1: Seal("beat")[4:] + "\n"} {
		if outs := d.Feed(conn, rest); countBad(outs) != 0 {
			t.Errorf("connection %d: %v", conn, outs)
		}
	}
	expect(t, "the line behind it", d.Feed(1, "6c6c\n"), bads(1, 1))
}

func TestLongLines(t *testing.T) {
	d := begin(t)
	for range 3 {
		if outs := d.Feed(1, strings.Repeat("y", 1000000)); len(outs) != 0 {
			t.Errorf("not ended, but: %v", outs)
		}
	}
	d.Feed(1, Seal("pull"))
	expect(t, "a long line", d.Feed(1, "\n"), bads(1, 1))
	if outs := d.Feed(1, ended("pull")); countBad(outs) != 0 {
		t.Errorf("behind a long line: %v", outs)
	}
	expect(t, "a message ahead of much more", d.Feed(1, Seal("pull")+strings.Repeat(" ", 68)+"\n"), bads(1, 1))
}

func TestManyLinesInOneFeed(t *testing.T) {
	expect(t, "empty lines", begin(t).Feed(9, strings.Repeat("\n", 100000)), bads(9, 100000))
}

func TestOnlyLinesThatAreNotEndedAreKept(t *testing.T) {
	d := begin(t)
	for conn := range 1000 {
		d.Feed(conn, "")
		d.Feed(conn, "x\n")
		d.Feed(conn, "y")
		d.Feed(conn, "\n")
	}
	if n := len(d.connections); n != 0 {
		t.Errorf("%d connections are kept", n)
	}
}

func TestClosedConnectionIsForgotten(t *testing.T) {
	d := begin(t)
	d.Feed(1, "xx")
	d.Feed(2, "xx")
	if outs := d.Close(1); len(outs) != 0 {
		t.Errorf("said: %v", outs)
	}
	if outs := d.Feed(1, ended("beat")); countBad(outs) != 0 {
		t.Errorf("behind Close: %v", outs)
	}
	expect(t, "one that is not closed", d.Feed(2, ended("beat")), bads(2, 1))
}

func TestSayJoinsWordsAndNumbers(t *testing.T) {
	var s talk
	s.say(5, "run", 1, 20, "a", "p")
	s.say(-6, "bye")
	want := []api.Out{{Conn: 5, Line: Seal("run 1 20 a p")}, {Conn: -6, Line: Seal("bye")}}
	expect(t, "said", s.outs, want)
}
