package dispatch

import (
	"slices"
	"strconv"
	"testing"

	"dispatch/api"
)

// P9

func TestDrainOfOneWithoutWork(t *testing.T) {
	d := begin(t)
	play(t, d,
		step{5, "drain", said("5 bye")},
		step{5, "drain", nil},
		step{5, "pull", nil},
		step{5, "drain", nil},
		step{6, "drain", said("6 bye")},
		step{0, "tick", nil},
		step{5, "beat", nil},
		step{5, "done 1 1 v", nil},
		step{5, "fail 1 1", nil},
		step{1, "sub 1 a x", said("1 acc 1")},
	)
	expectLook(t, d, api.Look{Now: 1, Queued: 1})
}

func TestWhoDrainsWaitsNoMore(t *testing.T) {
	for gone, rest := range map[int][]int{5: {6, 7}, 6: {5, 7}, 7: {5, 6}} {
		d := beginWith(t, api.Config{Lease: 9, Cap: 5, Bound: 8})
		for conn := 5; conn <= 7; conn++ {
			play(t, d, step{conn, "pull", nil})
		}
		name := strconv.Itoa(gone)
		play(t, d, step{gone, "drain", said(name + " bye")})
		expectLook(t, d, api.Look{Waiting: 2})
		play(t, d, step{gone, "pull", nil})
		expectLook(t, d, api.Look{Waiting: 2})
		for i, conn := range rest {
			n := strconv.Itoa(i)
			play(t, d, step{1, "sub " + n + " a x", said("1 acc "+n, strconv.Itoa(conn)+" run "+n+" 1 a x")})
		}
		play(t, d, step{1, "sub 9 a x", said("1 acc 9")})
		expectLook(t, d, api.Look{Queued: 1, Running: 2})
	}
}

func TestDrainIsNoneWithMoreWords(t *testing.T) {
	d := begin(t)
	for _, text := range []string{"drain 1", "drain ", " drain", "Drain", "drains"} {
		play(t, d, step{5, text, said("5 bad")})
	}
	play(t, d,
		step{1, "sub 1 a x", said("1 acc 1")},
		step{5, "pull", said("5 run 1 1 a x")},
		step{5, "drain 1", said("5 bad")},
		step{5, "done 1 1 v", said("1 val 1 v")},
		step{5, "drain", said("5 bye")},
	)
}

func TestDrainIsOfOneConnection(t *testing.T) {
	d := beginWith(t, api.Config{Lease: 9, Cap: 5, Bound: 8})
	play(t, d,
		step{5, "drain", said("5 bye")},
		step{1, "sub 1 a x", said("1 acc 1")},
		step{6, "pull", said("6 run 1 1 a x")},
		step{6, "done 1 1 v", said("1 val 1 v")},
		step{-5, "pull", nil},
	)
	expectLook(t, d, api.Look{Waiting: 1})
}

// working: connection 5 drains, and has the attempts of requests 1 and 2 (of
// connection 1).
func working(t *testing.T, c api.Config) *Dispatcher {
	t.Helper()
	d := beginWith(t, c)
	play(t, d,
		step{1, "sub 1 a x", said("1 acc 1")},
		step{1, "sub 2 b y", said("1 acc 2")},
		step{5, "pull", said("5 run 1 1 a x")},
		step{5, "pull", said("5 run 2 1 b y")},
		step{5, "drain", nil},
		step{5, "drain", nil},
		step{5, "pull", nil},
	)
	expectLook(t, d, api.Look{Running: 2})
	return d
}

func TestByeBehindTheLastAttempt(t *testing.T) {
	type end struct{ first, last step }
	for name, e := range map[string]end{
		"done":  {step{5, "done 1 1 v", said("1 val 1 v")}, step{5, "done 2 1 v", said("1 val 2 v", "5 bye")}},
		"fail":  {step{5, "fail 2 1", said("1 err 2")}, step{5, "fail 1 1", said("5 bye", "1 err 1")}},
		"can":   {step{1, "can 1", said("1 gone 1", "5 stop 1 1")}, step{1, "can 2", said("1 gone 2", "5 stop 2 1", "5 bye")}},
		"tick":  {step{0, "tick", nil}, step{0, "tick", said("5 stop 1 1", "1 err 1", "5 stop 2 1", "5 bye", "1 err 2")}},
		"mixed": {step{5, "fail 1 1", said("1 err 1")}, step{1, "close", said("5 stop 2 1", "5 bye")}},
	} {
		t.Run(name, func(t *testing.T) {
			d := working(t, api.Config{Lease: 2, Retries: 0, Cap: 1, Bound: 8})
			play(t, d, e.first, e.last,
				step{5, "drain", nil},
				step{5, "pull", nil},
				step{5, "done 1 1 v", nil},
				step{5, "fail 2 1", nil},
				step{0, "tick", nil},
				step{1, "sub 1 a x", said("1 acc 1")},
			)
			play(t, d, step{1, "can 1", said("1 gone 1")}, step{5, "close", nil})
			expectNothingKept(t, d)
		})
	}
}

// Who drains does all else as ever: its leases are renewed, and end.
func TestWhoDrainsGoesOnToWork(t *testing.T) {
	d := working(t, api.Config{Lease: 2, Retries: 0, Cap: 1, Bound: 8})
	for range 10 {
		play(t, d, step{0, "tick", nil}, step{5, "beat", nil})
	}
	play(t, d,
		step{5, "done 2 1 v", said("1 val 2 v")},
		step{0, "tick", nil},
		step{0, "tick", said("5 stop 1 1", "5 bye", "1 err 1")},
		step{5, "sub 3 a x", said("5 acc 3")},
		step{6, "pull", said("6 run 3 1 a x")},
		step{5, "sub 3 a x", said("5 rej 3 dup")},
		step{6, "done 3 1 v", said("5 val 3 v")},
		step{5, "sub 4 a x", said("5 acc 4")},
		step{5, "can 4", said("5 gone 4")},
		step{5, "can 4", said("5 none 4")},
		step{5, "dra", said("5 bad")},
	)
}

// What comes of an end is behind the bye: what waits again, too.
func TestByeIsAheadOfWhatComesOfTheEnd(t *testing.T) {
	for _, s := range []step{
		{5, "fail 1 1", said("5 bye", "6 run 1 2 a x")},
		{0, "tick", said("5 stop 1 1", "5 bye", "6 run 1 2 a x")},
		{1, "can 1", said("1 gone 1", "5 stop 1 1", "5 bye", "6 run 2 1 a y")},
		{5, "done 1 1 v", said("1 val 1 v", "5 bye", "6 run 2 1 a y")},
		{1, "close", said("5 stop 1 1", "5 bye", "6 run 2 1 a y")},
	} {
		d := beginWith(t, api.Config{Lease: 1, Retries: 1, Cap: 1, Bound: 8})
		play(t, d,
			step{1, "sub 1 a x", said("1 acc 1")},
			step{2, "sub 2 a y", said("2 acc 2")},
			step{5, "pull", said("5 run 1 1 a x")},
			step{6, "pull", nil},
			step{5, "drain", nil},
			s,
		)
	}
}

func TestByesBetweenStops(t *testing.T) {
	c := api.Config{Lease: 20, Cap: 2, Bound: 8}
	for _, s := range []step{
		{5, "done 1 1 v", said("1 val 1 v", "5 bye", "6 stop 1 2", "6 bye")},
		{6, "done 1 2 v", said("1 val 1 v", "6 bye", "5 stop 1 1", "5 bye")},
		{1, "can 1", said("1 gone 1", "5 stop 1 1", "5 bye", "6 stop 1 2", "6 bye")},
		{1, "close", said("5 stop 1 1", "5 bye", "6 stop 1 2", "6 bye")},
	} {
		d := twoAttempts(t, c)
		play(t, d, step{6, "drain", nil}, step{5, "drain", nil}, s)
		play(t, d, step{5, "close", nil}, step{6, "close", nil})
		expectNothingKept(t, d)
	}
}

func TestByeBehindBothAttemptsOfOneRequest(t *testing.T) {
	for _, s := range []step{
		{5, "done 1 1 v", said("1 val 1 v", "5 stop 1 2", "5 bye")},
		{5, "done 1 2 v", said("1 val 1 v", "5 stop 1 1", "5 bye")},
		{1, "can 1", said("1 gone 1", "5 stop 1 1", "5 stop 1 2", "5 bye")},
	} {
		d := hedged(t, api.Config{Lease: 20, Cap: 2, Bound: 8})
		play(t, d, step{5, "pull", said("5 run 1 2 a x")}, step{5, "drain", nil}, s)
	}
}

func TestByeOfOnesOwnRequest(t *testing.T) {
	d := begin(t)
	play(t, d,
		step{1, "sub 1 a x", said("1 acc 1")},
		step{1, "pull", said("1 run 1 1 a x")},
		step{1, "drain", nil},
		step{1, "done 1 1 v", said("1 val 1 v", "1 bye")},
	)
}

// A second attempt beside that of one who drains is for others.
func TestWorkOfWhoDrainsIsHedged(t *testing.T) {
	d := hedged(t, api.Config{Lease: 20, Retries: 0, Cap: 2, Bound: 8})
	play(t, d,
		step{5, "drain", nil},
		step{5, "pull", nil},
		step{5, "fail 1 1", said("5 bye")},
		step{6, "pull", said("6 run 1 2 a x")},
		step{6, "fail 1 2", said("1 err 1")},
	)
}

func TestDrainInPieces(t *testing.T) {
	d := begin(t)
	pull := ended("pull")
	got := words(d.Feed(5, pull+ended("drain")+ended("drain")+pull+pull[:3]))
	if want := said("5 bye"); !slices.Equal(got, want) {
		t.Errorf("in one piece: %q, want %q", got, want)
	}
	if got := d.Feed(5, pull[3:]); len(got) != 0 {
		t.Errorf("the line behind it: %v", words(got))
	}
	expectLook(t, d, api.Look{})
	play(t, d, step{1, "sub 1 a x", said("1 acc 1")})
}

// P10

func TestCloseOfOneThatIsNotThere(t *testing.T) {
	d := begin(t)
	play(t, d, step{7, "close", nil}, step{7, "close", nil})
	play(t, d,
		step{1, "sub 1 a x", said("1 acc 1")},
		step{5, "pull", said("5 run 1 1 a x")},
		step{7, "close", nil},
		step{-1, "close", nil},
		step{5, "done 1 1 v", said("1 val 1 v")},
	)
	expectNothingKept(t, d)
}

func TestClosedConnectionWaitsNoMore(t *testing.T) {
	for gone, rest := range map[int][]int{5: {6, 7}, 6: {5, 7}, 7: {5, 6}} {
		d := beginWith(t, api.Config{Lease: 9, Cap: 5, Bound: 8})
		for conn := 5; conn <= 7; conn++ {
			play(t, d, step{conn, "pull", nil})
		}
		play(t, d, step{gone, "close", nil})
		expectLook(t, d, api.Look{Waiting: 2})
		play(t, d, step{gone, "pull", nil}) // as one that never was, and so as the last
		for i, conn := range append(rest, gone) {
			n := strconv.Itoa(i)
			play(t, d, step{1, "sub " + n + " a x", said("1 acc "+n, strconv.Itoa(conn)+" run "+n+" 1 a x")})
		}
	}
}

func TestClosedConnectionDrainsNoMore(t *testing.T) {
	d := working(t, api.Config{Lease: 9, Retries: 0, Cap: 5, Bound: 8})
	play(t, d,
		step{5, "close", nil}, // no bye
		step{5, "pull", said("5 run 1 2 a x")},
		step{5, "done 1 2 v", said("1 val 1 v")},
		step{5, "drain", said("5 bye")},
		step{5, "close", nil},
		step{5, "drain", said("5 bye")},
		step{5, "close", nil},
		step{5, "pull", said("5 run 2 2 b y")},
		step{5, "drain", nil},
		step{5, "done 2 2 v", said("1 val 2 v", "5 bye")},
		step{5, "close", nil},
	)
	expectNothingKept(t, d)
}

func TestRequestsOfAClosedConnection(t *testing.T) {
	d := beginWith(t, api.Config{Lease: 9, Cap: 5, Bound: 8})
	for _, n := range []string{"100", "9", "20", "3", "0"} {
		play(t, d,
			step{1, "sub " + n + " a x", said("1 acc " + n)},
			step{5, "pull", said("5 run " + n + " 1 a x")},
		)
	}
	play(t, d,
		step{1, "sub 5 b x", said("1 acc 5")},
		step{2, "sub 6 b y", said("2 acc 6")},
		step{2, "sub 7 c y", said("2 acc 7")},
		step{1, "sub 8 c x", said("1 acc 8")},
		step{1, "close", said("5 stop 0 1", "5 stop 3 1", "5 stop 9 1", "5 stop 20 1", "5 stop 100 1")},
	)
	expectLook(t, d, api.Look{Queued: 2})
	for _, n := range []string{"0", "3", "5", "8", "9", "20", "100"} {
		play(t, d,
			step{1, "can " + n, said("1 none " + n)},
			step{5, "done " + n + " 1 v", nil},
		)
	}
	play(t, d,
		step{1, "sub 3 b x", said("1 acc 3")},
		step{6, "pull", said("6 run 6 1 b y")},
		step{6, "pull", said("6 run 7 1 c y")},
		step{6, "pull", said("6 run 3 1 b x")},
		step{1, "close", said("6 stop 3 1")},
		step{2, "close", said("6 stop 6 1", "6 stop 7 1")},
	)
	expectNothingKept(t, d)
}

// The requests are shut one by one, each with the stops in the order of its
// attempts' beginnings; work is handed out behind all of them.
func TestCloseShutsOneByOne(t *testing.T) {
	d := beginWith(t, api.Config{Lease: 20, Cap: 2, Bound: 8, Hedge: 1})
	play(t, d,
		step{1, "sub 2 a x", said("1 acc 2")},
		step{1, "sub 1 b x", said("1 acc 1")},
		step{5, "pull", said("5 run 2 1 a x")},
		step{6, "pull", said("6 run 1 1 b x")},
		step{0, "tick", nil},
		step{6, "pull", said("6 run 2 2 a x")},
		step{5, "pull", said("5 run 1 2 b x")},
		step{3, "sub 3 b y", said("3 acc 3")},
		step{4, "sub 4 a z", said("4 acc 4")},
		step{7, "pull", nil},
		step{8, "pull", nil},
		step{5, "drain", nil},
		step{6, "drain", nil},
		step{1, "close", said(
			"6 stop 1 1", "5 stop 1 2", "5 stop 2 1", "5 bye", "6 stop 2 2", "6 bye",
			"7 run 3 1 b y", "8 run 4 1 a z",
		)},
	)
}

func TestOwnAttemptsOfOwnRequestsEndWithoutAWord(t *testing.T) {
	d := beginWith(t, api.Config{Lease: 20, Cap: 5, Bound: 8, Hedge: 1})
	play(t, d,
		step{5, "sub 1 a x", said("5 acc 1")},
		step{5, "sub 2 a x", said("5 acc 2")},
		step{5, "sub 3 a x", said("5 acc 3")},
		step{5, "pull", said("5 run 1 1 a x")},
		step{6, "pull", said("6 run 2 1 a x")},
		step{5, "pull", said("5 run 3 1 a x")},
		step{0, "tick", nil},
		step{6, "pull", said("6 run 1 2 a x")},
		step{5, "pull", said("5 run 2 2 a x")},
		step{5, "drain", nil},
		step{5, "close", said("6 stop 1 2", "6 stop 2 1")},
	)
	expectLook(t, d, api.Look{Now: 1})
	expectNothingKept(t, d)
}

func TestBothAttemptsOfOnesOwnRequest(t *testing.T) {
	d := hedged(t, api.Config{Lease: 20, Cap: 2, Bound: 8})
	play(t, d, step{1, "close", said("5 stop 1 1")})
	expectNothingKept(t, d)
	play(t, d,
		step{1, "sub 1 a x", said("1 acc 1")},
		step{1, "pull", said("1 run 1 1 a x")},
		step{0, "tick", nil},
		step{1, "pull", said("1 run 1 2 a x")},
		step{1, "close", nil},
	)
	expectNothingKept(t, d)
}

func TestAttemptsOfAClosedConnectionAreGivenBack(t *testing.T) {
	d := beginWith(t, api.Config{Lease: 3, Retries: 0, Cap: 3, Bound: 1})
	for i, name := range []string{"c", "a", "b", "a"} {
		n := strconv.Itoa(i)
		play(t, d,
			step{1, "sub " + n + " " + name + " x", said("1 acc " + n)},
			step{5, "pull", said("5 run " + n + " 1 " + name + " x")},
		)
	}
	play(t, d,
		step{1, "sub 4 a y", said("1 acc 4")},
		step{5, "close", nil}, // whatever Bound says
	)
	expectLook(t, d, api.Look{Queued: 5})
	for n := range 4 {
		play(t, d,
			step{5, "done " + strconv.Itoa(n) + " 1 v", nil},
			step{5, "fail " + strconv.Itoa(n) + " 1", nil},
		)
	}
	play(t, d,
		step{1, "sub 5 a x", said("1 rej 5 full")},
		step{1, "sub 5 c x", said("1 rej 5 full")},
		step{0, "tick", nil},
		step{0, "tick", nil},
		step{0, "tick", nil}, // their leases are no more
		// a was in the ring; c and b came to its end as their attempts began.
		step{6, "pull", said("6 run 3 2 a x")},
		step{6, "pull", said("6 run 0 2 c x")},
		step{6, "pull", said("6 run 2 2 b x")},
		step{6, "pull", said("6 run 1 2 a x")},
		step{6, "pull", said("6 run 4 1 a y")},
		step{6, "done 3 2 v", said("1 val 3 v")},
		step{6, "fail 0 2", said("1 err 0")},
	)
}

// As they began, not by when their leases end, nor as these lie in their heap.
func TestManyAreGivenBackAsTheyBegan(t *testing.T) {
	const many = 26
	d := beginWith(t, api.Config{Lease: 20, Retries: 0, Cap: 1, Bound: 8})
	tenant := func(id int) string { return string([]rune{'a' + rune(id*7%many)}) }
	for id := range many {
		n := strconv.Itoa(id)
		conn := 5 + id%3
		play(t, d,
			step{1, "sub " + n + " " + tenant(id) + " x", said("1 acc " + n)},
			step{conn, "pull", said(strconv.Itoa(conn) + " run " + n + " 1 " + tenant(id) + " x")},
			step{0, "tick", nil},
			step{5 + id%2, "beat", nil},
		)
		if id%5 == 4 {
			play(t, d, step{7, "beat", nil})
		}
	}
	for conn := 7; conn >= 5; conn-- {
		play(t, d, step{conn, "close", nil})
	}
	for conn := 7; conn >= 5; conn-- {
		for id := conn - 5; id < many; id += 3 {
			n := strconv.Itoa(id)
			play(t, d, step{8, "pull", said("8 run " + n + " 2 " + tenant(id) + " x")})
		}
	}
	expectLook(t, d, api.Look{Now: many, Running: many})
}

func TestGivenBackCountsForNothing(t *testing.T) {
	for retries := range 3 {
		d := beginWith(t, api.Config{Lease: 20, Retries: retries, Cap: 1, Bound: 8})
		play(t, d, step{1, "sub 1 a x", said("1 acc 1")})
		number := 0
		next := func(text string, lines ...string) {
			t.Helper()
			number++
			n := strconv.Itoa(number)
			play(t, d, step{5, "pull", said("5 run 1 " + n + " a x")})
			if text == "fail" {
				text += " 1 " + n
			}
			play(t, d, step{5, text, lines})
		}
		for range 10 {
			next("close")
		}
		for range retries {
			next("fail")
			next("close")
		}
		next("fail", "1 err 1")
		expectNothingKept(t, d)
	}
}

func TestGivenBackBesideAnotherAttempt(t *testing.T) {
	c := api.Config{Lease: 20, Retries: 0, Cap: 2, Bound: 8}
	for _, order := range [][2]int{{5, 6}, {6, 5}} {
		d := twoAttempts(t, c)
		play(t, d, step{order[0], "close", nil})
		expectLook(t, d, api.Look{Now: 1, Running: 1})
		play(t, d, step{order[1], "close", nil})
		expectLook(t, d, api.Look{Now: 1, Queued: 1})
		play(t, d,
			step{7, "pull", said("7 run 1 3 a x")},
			step{7, "fail 1 3", said("1 err 1")},
		)
		expectNothingKept(t, d)
	}
}

func TestGivenBackWhereItWaitsStaysWhereItIs(t *testing.T) {
	d := beginWith(t, api.Config{Lease: 20, Retries: 0, Cap: 1, Bound: 8, Hedge: 1})
	play(t, d,
		step{1, "sub 1 a x", said("1 acc 1")},
		step{5, "pull", said("5 run 1 1 a x")},
		step{1, "sub 2 a y", said("1 acc 2")},
		step{0, "tick", nil}, // 1 waits behind 2
		step{5, "close", nil},
	)
	expectLook(t, d, api.Look{Now: 1, Queued: 2})
	play(t, d,
		step{6, "pull", said("6 run 2 1 a y")},
		step{6, "done 2 1 v", said("1 val 2 v")},
		step{6, "pull", said("6 run 1 2 a x")},
		step{7, "pull", nil},
		step{0, "tick", nil}, // it was hedged, and is not once more
	)
}

func TestBothAttemptsOfOneAreGivenBackOnce(t *testing.T) {
	d := hedged(t, api.Config{Lease: 20, Retries: 0, Cap: 2, Bound: 8})
	play(t, d,
		step{5, "pull", said("5 run 1 2 a x")},
		step{5, "close", nil},
	)
	expectLook(t, d, api.Look{Now: 1, Queued: 1})
	play(t, d,
		step{6, "pull", said("6 run 1 3 a x")},
		step{6, "pull", nil},
	)
}

// Given back ahead of its hedge, it is hedged by a later attempt.
func TestGivenBackMayBeHedgedLater(t *testing.T) {
	d := beginWith(t, api.Config{Lease: 20, Cap: 2, Bound: 8, Hedge: 2})
	play(t, d,
		step{1, "sub 1 a x", said("1 acc 1")},
		step{5, "pull", said("5 run 1 1 a x")},
		step{0, "tick", nil},
		step{6, "pull", nil},
		step{7, "pull", nil},
		step{5, "close", said("6 run 1 2 a x")},
		step{0, "tick", nil},
		step{0, "tick", said("7 run 1 3 a x")},
	)
}

func TestCloseShutsAheadOfGivingBack(t *testing.T) {
	d := beginWith(t, api.Config{Lease: 20, Retries: 0, Cap: 1, Bound: 8})
	play(t, d,
		step{2, "sub 1 a x", said("2 acc 1")},
		step{5, "pull", said("5 run 1 1 a x")},
		step{5, "sub 2 b y", said("5 acc 2")},
		step{6, "pull", said("6 run 2 1 b y")},
		step{5, "sub 3 a z", said("5 acc 3")}, // a is in the ring, and leaves it with 3
		step{2, "sub 4 c z", said("2 acc 4")},
		step{7, "pull", said("7 run 4 1 c z")},
		step{2, "sub 5 b z", said("2 acc 5")},
		step{7, "pull", nil},
		step{8, "pull", nil},
		step{5, "close", said("6 stop 2 1", "7 run 5 1 b z", "8 run 1 2 a x")},
	)
}

// What is shut makes room for a, but that is filled behind all of Close.
func TestWorkIsHandedOutBehindAllOfClose(t *testing.T) {
	d := beginWith(t, api.Config{Lease: 20, Retries: 0, Cap: 2, Bound: 8})
	play(t, d,
		step{2, "sub 1 a x", said("2 acc 1")},
		step{5, "pull", said("5 run 1 1 a x")},
		step{5, "sub 2 a y", said("5 acc 2")},
		step{6, "pull", said("6 run 2 1 a y")},
		step{2, "sub 3 a z", said("2 acc 3")},
		step{7, "pull", nil},
		step{8, "pull", nil},
		step{5, "close", said("6 stop 2 1", "7 run 1 2 a x", "8 run 3 1 a z")},
	)
}

func TestWhoIsClosedIsAnotherThenOn(t *testing.T) {
	d := beginWith(t, api.Config{Lease: 3, Retries: 0, Cap: 5, Bound: 8})
	play(t, d,
		step{1, "sub 1 a x", said("1 acc 1")},
		step{5, "pull", said("5 run 1 1 a x")},
		step{5, "close", nil},
		step{6, "pull", said("6 run 1 2 a x")},
		step{0, "tick", nil},
		step{0, "tick", nil},
		step{5, "beat", nil}, // it has none
		step{5, "done 1 2 v", nil},
		step{0, "tick", said("6 stop 1 2", "1 err 1")},
	)
	expectNothingKept(t, d)
}

func TestClosedConnectionsTakeNoRoom(t *testing.T) {
	d := beginWith(t, api.Config{Lease: 3, Retries: 0, Cap: 5, Bound: 8})
	for conn := range 1000 {
		name := strconv.Itoa(conn)
		play(t, d,
			step{conn, "sub 1 a x", said(name + " acc 1")},
			step{conn, "pull", said(name + " run 1 1 a x")},
			step{conn, "pull", nil},
			step{conn, "drain", nil},
		)
		d.Feed(conn, "not ended")
		play(t, d, step{conn, "close", nil})
		expectNothingKept(t, d)
	}
}
