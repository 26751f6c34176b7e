package dispatch

import (
	"slices"
	"strconv"
	"testing"

	"dispatch/api"
)

func TestExamples(t *testing.T) {
	d := begin(t)
	play(t, d,
		step{1, "sub 1 a p", said("1 acc 1")},
		step{1, "sub 1 b p", said("1 rej 1 dup")},
		step{2, "sub 2 a q", said("2 acc 2")},
		step{1, "sub 3 a r", said("1 rej 3 full")},
		step{1, "sub 3 b r", said("1 acc 3")},
		step{2, "can 1", said("2 none 1")},
	)
	expectLook(t, d, api.Look{Queued: 3})
	play(t, d,
		step{5, "pull", said("5 run 1 1 a p")},
		step{5, "pull", said("5 run 3 1 b r")},
		step{5, "pull", nil},
		step{6, "pull", nil},
		step{6, "done 1 1 v", nil},
	)
	expectLook(t, d, api.Look{Queued: 1, Running: 2, Waiting: 2})
	play(t, d,
		step{5, "fail 1 1", said("5 run 1 2 a p")},
		step{5, "fail 1 2", said("1 err 1", "6 run 2 1 a q")},
		step{0, "tick", nil},
		step{0, "tick", nil},
	)
	expectLook(t, d, api.Look{Now: 2, Queued: 2, Running: 2})
	play(t, d,
		step{5, "pull", nil},
		step{0, "tick", said("5 stop 3 1", "6 stop 2 1", "5 run 3 2 b r")},
		step{6, "pull", said("6 run 2 2 a q")},
		step{6, "drain", nil},
		step{6, "done 2 2 w", said("2 val 2 w", "6 bye")},
	)
	expectLook(t, d, api.Look{Now: 3, Running: 1})
}

// P4: sub

func TestNumbersOfOpenRequestsAreTaken(t *testing.T) {
	d := begin(t)
	play(t, d,
		step{1, "sub 0 a x", said("1 acc 0")},
		step{1, "sub 0 a x", said("1 rej 0 dup")},
		step{2, "sub 0 b y", said("2 rej 0 dup")},
		step{1, "sub 999999 a x", said("1 acc 999999")},
		step{3, "sub 999999 a x", said("3 rej 999999 dup")}, // of a tenant who is full, too
		step{3, "sub 99999 a x", said("3 rej 99999 full")},
	)
	expectLook(t, d, api.Look{Queued: 2})
	play(t, d,
		step{5, "pull", said("5 run 0 1 a x")},
		step{2, "sub 0 b y", said("2 rej 0 dup")}, // it runs, and is open
		step{5, "done 0 1 v", said("1 val 0 v")},
		step{2, "sub 0 b y", said("2 acc 0")},
		step{1, "can 999999", said("1 gone 999999")},
		step{2, "sub 999999 b z", said("2 acc 999999")},
		step{1, "can 0", said("1 none 0")}, // it is the other connection's now
	)
}

func TestBoundIsOfWhatWaits(t *testing.T) {
	for bound := 1; bound <= 8; bound++ {
		d := beginWith(t, api.Config{Lease: 1, Cap: 1, Bound: bound})
		for id := range bound {
			n := strconv.Itoa(id)
			play(t, d, step{id, "sub " + n + " a x", said(n + " acc " + n)})
		}
		play(t, d,
			step{-1, "sub 100 a x", said("-1 rej 100 full")},
			step{-1, "sub 100 b x", said("-1 acc 100")},
			step{9, "pull", said("9 run 0 1 a x")},
			step{-1, "sub 101 a x", said("-1 acc 101")}, // what runs does not wait
			step{-1, "sub 102 a x", said("-1 rej 102 full")},
			step{-1, "can 101", said("-1 gone 101")},
			step{-1, "sub 102 a x", said("-1 acc 102")},
			step{-1, "sub 103 a x", said("-1 rej 103 full")},
		)
		expectLook(t, d, api.Look{Queued: bound + 1, Running: 1})
	}
}

func TestRejectedRequestsLeaveNothing(t *testing.T) {
	d := beginWith(t, api.Config{Lease: 1, Cap: 5, Bound: 1})
	play(t, d,
		step{1, "sub 1 a x", said("1 acc 1")},
		step{1, "sub 1 b x", said("1 rej 1 dup")},
		step{1, "sub 2 a x", said("1 rej 2 full")},
		step{1, "can 2", said("1 none 2")},
		step{2, "pull", said("2 run 1 1 a x")},
		step{2, "pull", nil},
		step{1, "can 1", said("1 gone 1", "2 stop 1 1")},
		step{2, "close", nil},
	)
	expectNothingKept(t, d)
}

func TestTenantsAreToldApart(t *testing.T) {
	d := beginWith(t, api.Config{Lease: 1, Cap: 1, Bound: 1})
	for i, name := range []string{"a", "α", "aα", "αa", "aa", "ω", "abcdef", "αβγδεω"} {
		n := strconv.Itoa(i)
		play(t, d, step{1, "sub " + n + " " + name + " x", said("1 acc " + n)})
		play(t, d, step{1, "sub 99 " + name + " x", said("1 rej 99 full")})
	}
	play(t, d, step{2, "pull", said("2 run 0 1 a x")}, step{2, "pull", said("2 run 1 1 α x")})
}

// P4: can

func TestCancel(t *testing.T) {
	d := beginWith(t, api.Config{Lease: 1, Cap: 2, Bound: 8})
	play(t, d,
		step{1, "can 1", said("1 none 1")},
		step{1, "sub 1 a x", said("1 acc 1")},
		step{2, "can 1", said("2 none 1")},
		step{1, "can 10", said("1 none 10")},
		step{1, "can 1", said("1 gone 1")},
		step{1, "can 1", said("1 none 1")},
		step{5, "pull", nil},
		step{1, "sub 1 a x", said("1 acc 1", "5 run 1 1 a x")},
		step{5, "can 1", said("5 none 1")}, // who has the attempt does not have the request
		step{1, "can 1", said("1 gone 1", "5 stop 1 1")},
		step{5, "done 1 1 v", nil},
		step{1, "pull", nil},
		step{1, "sub 2 b x", said("1 acc 2", "1 run 2 1 b x")},
		step{1, "can 2", said("1 gone 2", "1 stop 2 1")},
	)
	expectLook(t, d, api.Look{})
	expectNothingKept(t, d)
}

func TestCancelAmongOthersThatWait(t *testing.T) {
	for gone, rest := range map[string][]string{"1": {"2", "3", "4"}, "2": {"1", "3", "4"}, "3": {"1", "2", "4"}, "4": {"1", "2", "3"}} {
		d := beginWith(t, api.Config{Lease: 1, Cap: 5, Bound: 8})
		for _, n := range []string{"1", "2", "3", "4"} {
			play(t, d, step{1, "sub " + n + " a x", said("1 acc " + n)})
		}
		play(t, d, step{1, "can " + gone, said("1 gone " + gone)})
		expectLook(t, d, api.Look{Queued: 3})
		for _, n := range rest {
			play(t, d, step{2, "pull", said("2 run " + n + " 1 a x")})
		}
		play(t, d, step{2, "pull", nil})
	}
}

func TestCancelMakesRoomForOthers(t *testing.T) {
	d := beginWith(t, api.Config{Lease: 1, Cap: 1, Bound: 8})
	play(t, d,
		step{1, "sub 1 a x", said("1 acc 1")},
		step{1, "sub 2 a y", said("1 acc 2")},
		step{5, "pull", said("5 run 1 1 a x")},
		step{6, "pull", nil},
		step{1, "can 1", said("1 gone 1", "5 stop 1 1", "6 run 2 1 a y")},
	)
}

// P4: pull

func TestPullersWaitOnceAndInOrder(t *testing.T) {
	d := beginWith(t, api.Config{Lease: 1, Cap: 5, Bound: 8})
	for _, conn := range []int{7, -5, 6, 7, 6, -5} {
		play(t, d, step{conn, "pull", nil})
	}
	expectLook(t, d, api.Look{Waiting: 3})
	play(t, d,
		step{1, "sub 1 a x", said("1 acc 1", "7 run 1 1 a x")},
		step{7, "pull", nil}, // as the last
		step{1, "sub 2 a x", said("1 acc 2", "-5 run 2 1 a x")},
		step{1, "sub 3 a x", said("1 acc 3", "6 run 3 1 a x")},
		step{1, "sub 4 a x", said("1 acc 4", "7 run 4 1 a x")}, // beside its first
		step{1, "sub 5 a x", said("1 acc 5")},
	)
	expectLook(t, d, api.Look{Queued: 1, Running: 4})
}

// P4: done

func TestDone(t *testing.T) {
	d := beginWith(t, api.Config{Lease: 1, Cap: 5, Bound: 8})
	play(t, d,
		step{5, "done 1 1 v", nil},
		step{1, "sub 1 a x", said("1 acc 1")},
		step{1, "sub 2 a y", said("1 acc 2")},
		step{5, "done 1 0 v", nil}, // it waits, and has no attempt
		step{5, "done 1 1 v", nil},
		step{5, "pull", said("5 run 1 1 a x")},
		step{6, "pull", said("6 run 2 1 a y")},
		step{6, "done 1 1 v", nil},
		step{1, "done 1 1 v", nil}, // whose request it is does not have the attempt
		step{5, "done 1 0 v", nil},
		step{5, "done 1 2 v", nil},
		step{5, "done 2 1 v", nil},
		step{5, "done 11 1 v", nil},
	)
	expectLook(t, d, api.Look{Running: 2})
	play(t, d,
		step{5, "done 1 1 é\uffff~", said("1 val 1 é\uffff~")},
		step{5, "done 1 1 v", nil},
		step{1, "can 1", said("1 none 1")},
		step{1, "sub 1 b z", said("1 acc 1")},
		step{5, "done 1 1 v", nil},
		step{5, "pull", said("5 run 1 1 b z")}, // numbered anew
		step{6, "done 2 1 123456789012", said("1 val 2 123456789012")},
		step{5, "done 1 1 v", said("1 val 1 v")},
	)
	expectLook(t, d, api.Look{})
	expectNothingKept(t, d)
}

func TestDoneOfOnesOwnRequest(t *testing.T) {
	d := begin(t)
	play(t, d,
		step{1, "sub 1 a x", said("1 acc 1")},
		step{1, "pull", said("1 run 1 1 a x")},
		step{1, "done 1 1 v", said("1 val 1 v")},
	)
	expectNothingKept(t, d)
}

// hedged: request 1 of connection 1, at time 1, waits beside its first attempt
// (of connection 5).
func hedged(t *testing.T, c api.Config) *Dispatcher {
	t.Helper()
	c.Hedge = 1
	d := beginWith(t, c)
	play(t, d,
		step{1, "sub 1 a x", said("1 acc 1")},
		step{5, "pull", said("5 run 1 1 a x")},
		step{0, "tick", nil},
	)
	expectLook(t, d, api.Look{Now: 1, Queued: 1, Running: 1})
	return d
}

// twoAttempts: the same, and has a second (of connection 6).
func twoAttempts(t *testing.T, c api.Config) *Dispatcher {
	t.Helper()
	d := hedged(t, c)
	play(t, d, step{6, "pull", said("6 run 1 2 a x")})
	expectLook(t, d, api.Look{Now: 1, Running: 2})
	return d
}

func TestShutStopsAttemptsInTheirOrder(t *testing.T) {
	for _, s := range []step{
		{1, "can 1", said("1 gone 1", "5 stop 1 1", "6 stop 1 2")},
		{5, "done 1 1 v", said("1 val 1 v", "6 stop 1 2")},
		{6, "done 1 2 v", said("1 val 1 v", "5 stop 1 1")},
		{6, "done 1 1 v", nil},
		{5, "done 1 2 v", nil},
	} {
		d := twoAttempts(t, api.Config{Lease: 9, Cap: 2, Bound: 8})
		play(t, d, s)
		if s.said != nil {
			expectNothingKept(t, d)
		}
	}
}

func TestShutRequestWaitsNoMore(t *testing.T) {
	for _, s := range []step{
		{5, "done 1 1 v", said("1 val 1 v")},
		{1, "can 1", said("1 gone 1", "5 stop 1 1")},
	} {
		d := hedged(t, api.Config{Lease: 9, Cap: 1, Bound: 8})
		play(t, d, step{6, "pull", nil}, s)
		expectLook(t, d, api.Look{Now: 1, Waiting: 1})
	}
}

// P5

func TestTurns(t *testing.T) {
	d := beginWith(t, api.Config{Lease: 1, Cap: 5, Bound: 8})
	for i, name := range []string{"a", "a", "b", "b", "c", "c"} {
		n := strconv.Itoa(i)
		play(t, d, step{1, "sub " + n + " " + name + " x", said("1 acc " + n)})
	}
	for _, run := range []string{"0 1 a", "2 1 b", "4 1 c", "1 1 a", "3 1 b", "5 1 c"} {
		play(t, d, step{2, "pull", said("2 run " + run + " x")})
	}
	play(t, d, step{2, "pull", nil})
	expectLook(t, d, api.Look{Running: 6, Waiting: 1})
}

func TestTenantWhoComesBackIsTheLast(t *testing.T) {
	d := beginWith(t, api.Config{Lease: 1, Cap: 5, Bound: 8})
	play(t, d,
		step{1, "sub 1 a x", said("1 acc 1")},
		step{1, "sub 2 b x", said("1 acc 2")},
		step{1, "can 1", said("1 gone 1")},
		step{1, "sub 3 a x", said("1 acc 3")},
		step{1, "sub 4 b x", said("1 acc 4")}, // b stays where it is
		step{2, "pull", said("2 run 2 1 b x")},
		step{2, "pull", said("2 run 3 1 a x")},
		step{1, "sub 5 a x", said("1 acc 5")}, // a had none left
		step{2, "pull", said("2 run 4 1 b x")},
		step{2, "pull", said("2 run 5 1 a x")},
	)
}

func TestTenantKeepsItsTurnWhereOthersAreCancelled(t *testing.T) {
	d := beginWith(t, api.Config{Lease: 1, Cap: 5, Bound: 8})
	play(t, d,
		step{1, "sub 1 a x", said("1 acc 1")},
		step{1, "sub 2 b x", said("1 acc 2")},
		step{1, "sub 3 a x", said("1 acc 3")},
		step{1, "can 1", said("1 gone 1")},
		step{2, "pull", said("2 run 3 1 a x")},
		step{2, "pull", said("2 run 2 1 b x")},
	)
}

func TestCapIsOfEachTenant(t *testing.T) {
	for limit := 1; limit <= 5; limit++ {
		d := beginWith(t, api.Config{Lease: 1, Cap: limit, Bound: 8})
		for id := range limit + 2 {
			n := strconv.Itoa(id)
			play(t, d, step{1, "sub " + n + " a x", said("1 acc " + n)})
		}
		for id := range limit {
			play(t, d, step{2, "pull", said("2 run " + strconv.Itoa(id) + " 1 a x")})
		}
		next, last := strconv.Itoa(limit), strconv.Itoa(limit+1)
		play(t, d,
			step{2, "pull", nil},
			step{3, "pull", nil},
			step{1, "sub 99 b x", said("1 acc 99", "2 run 99 1 b x")},
			step{2, "done 0 1 v", said("1 val 0 v", "3 run "+next+" 1 a x")},
			step{4, "pull", nil},
			step{2, "done 99 1 v", said("1 val 99 v")}, // b's end makes no room for a
			step{3, "done " + next + " 1 v", said("1 val "+next+" v", "4 run "+last+" 1 a x")},
		)
		expectLook(t, d, api.Look{Running: limit})
	}
}

func TestTenantAtItsCapKeepsItsPlace(t *testing.T) {
	d := beginWith(t, api.Config{Lease: 1, Cap: 1, Bound: 8})
	play(t, d,
		step{1, "sub 1 a x", said("1 acc 1")},
		step{5, "pull", said("5 run 1 1 a x")},
		step{1, "sub 2 a x", said("1 acc 2")},
		step{1, "sub 3 b x", said("1 acc 3")},
		step{1, "sub 4 c x", said("1 acc 4")},
		step{6, "pull", said("6 run 3 1 b x")}, // a is the ring's first, but has its one attempt
		step{5, "done 1 1 v", said("1 val 1 v")},
		step{6, "pull", said("6 run 2 1 a x")},
		step{6, "pull", said("6 run 4 1 c x")},
	)
}

func TestWorkIsHandedOutBehindEachMessage(t *testing.T) {
	d := begin(t)
	feed := ended("pull") + ended("sub 1 a x") + "wrong\n" + ended("pull") + ended("sub 2 a y") + ended("done 1 1 v") + ended("can 2")
	want := said("1 acc 1", "1 run 1 1 a x", "1 bad", "1 acc 2", "1 val 1 v", "1 run 2 1 a y", "1 gone 2", "1 stop 2 1")
	if got := words(d.Feed(1, feed)); !slices.Equal(got, want) {
		t.Errorf("in one piece: %q, want %q", got, want)
	}
}

// As long as there is work for those who wait: behind Tick and Close too.
func TestWorkIsHandedOutBehindEachCall(t *testing.T) {
	for _, text := range []string{"tick", "close", "beat"} {
		d := beginWith(t, api.Config{Lease: 9, Cap: 1, Bound: 8})
		for i, name := range []string{"a", "b", "a", "b", "a"} {
			n := strconv.Itoa(i)
			play(t, d, step{1, "sub " + n + " " + name + " x", said("1 acc " + n)})
		}
		play(t, d,
			step{5, "pull", said("5 run 0 1 a x")},
			step{5, "pull", said("5 run 1 1 b x")},
			step{5, "pull", nil},
			step{6, "pull", nil},
			step{7, "pull", nil},
		)
		d.config.Cap = 2
		play(t, d, step{9, text, said("5 run 2 1 a x", "6 run 3 1 b x")})
		d.config.Cap = 3
		play(t, d, step{9, text, said("7 run 4 1 a x")}, step{9, text, nil})
	}
}

func TestAttemptsAreNumberedOnInEachRequest(t *testing.T) {
	d := beginWith(t, api.Config{Lease: 20, Retries: 5, Cap: 2, Bound: 8})
	play(t, d,
		step{1, "sub 1 a x", said("1 acc 1")},
		step{5, "pull", said("5 run 1 1 a x")},
	)
	for number := range 4 {
		last, next := strconv.Itoa(number+1), strconv.Itoa(number+2)
		play(t, d,
			step{5, "fail 1 " + last, nil},
			step{5, "pull", said("5 run 1 " + next + " a x")},
		)
	}
	play(t, d,
		step{1, "sub 2 a y", said("1 acc 2")},
		step{5, "pull", said("5 run 2 1 a y")},
		step{5, "fail 1 5", nil},
		step{5, "pull", said("5 run 1 6 a x")},
	)
}

// P6

func TestLook(t *testing.T) {
	d := beginWith(t, api.Config{Lease: 20, Cap: 1, Bound: 8})
	look := func(s step, want api.Look) {
		t.Helper()
		play(t, d, s)
		expectLook(t, d, want)
		expectLook(t, d, want)
	}
	look(step{1, "tick", nil}, api.Look{Now: 1})
	look(step{1, "sub 1 a x", said("1 acc 1")}, api.Look{Now: 1, Queued: 1})
	look(step{1, "sub 2 a x", said("1 acc 2")}, api.Look{Now: 1, Queued: 2})
	look(step{1, "sub 3 b x", said("1 acc 3")}, api.Look{Now: 1, Queued: 3})
	look(step{5, "pull", said("5 run 1 1 a x")}, api.Look{Now: 1, Queued: 2, Running: 1})
	look(step{5, "pull", said("5 run 3 1 b x")}, api.Look{Now: 1, Queued: 1, Running: 2})
	look(step{5, "pull", nil}, api.Look{Now: 1, Queued: 1, Running: 2, Waiting: 1})
	look(step{5, "pull", nil}, api.Look{Now: 1, Queued: 1, Running: 2, Waiting: 1})
	look(step{6, "pull", nil}, api.Look{Now: 1, Queued: 1, Running: 2, Waiting: 2})
	look(step{1, "tick", nil}, api.Look{Now: 2, Queued: 1, Running: 2, Waiting: 2})
	look(step{5, "done 3 1 v", said("1 val 3 v")}, api.Look{Now: 2, Queued: 1, Running: 1, Waiting: 2})
	look(step{1, "can 1", said("1 gone 1", "5 stop 1 1", "5 run 2 1 a x")}, api.Look{Now: 2, Running: 1, Waiting: 1})
	look(step{6, "close", nil}, api.Look{Now: 2, Running: 1})
	look(step{5, "done 2 1 v", said("1 val 2 v")}, api.Look{Now: 2})
	expectNothingKept(t, d)
}

func TestTicksAreCounted(t *testing.T) {
	d := begin(t)
	for now := 1; now <= 1000; now++ {
		play(t, d, step{0, "tick", nil})
		expectLook(t, d, api.Look{Now: now})
	}
}
