package dispatch

import (
	"math/rand"
	"slices"
	"strconv"
	"testing"

	"dispatch/api"
)

// ticks: time goes on, and nothing is said.
func ticks(t *testing.T, d *Dispatcher, n int) {
	t.Helper()
	for range n {
		play(t, d, step{0, "tick", nil})
	}
}

// P7: fail

func TestFailIsOfWhoHasTheAttempt(t *testing.T) {
	d := beginWith(t, api.Config{Lease: 9, Cap: 5, Bound: 8})
	play(t, d,
		step{5, "fail 1 1", nil},
		step{1, "sub 1 a x", said("1 acc 1")},
		step{1, "sub 2 a y", said("1 acc 2")},
		step{5, "fail 1 0", nil}, // it waits, and has no attempt
		step{5, "fail 1 1", nil},
		step{5, "pull", said("5 run 1 1 a x")},
		step{6, "pull", said("6 run 2 1 a y")},
		step{6, "fail 1 1", nil},
		step{1, "fail 1 1", nil}, // whose request it is does not have the attempt
		step{5, "fail 1 0", nil},
		step{5, "fail 1 2", nil},
		step{5, "fail 2 1", nil},
		step{5, "fail 11 1", nil},
		step{5, "fail 1", said("5 bad")},
		step{5, "fail 1 1 x", said("5 bad")},
		step{5, "fail 1 01", said("5 bad")},
	)
	expectLook(t, d, api.Look{Running: 2})
	play(t, d,
		step{5, "fail 1 1", said("1 err 1")},
		step{5, "fail 1 1", nil},
		step{5, "done 1 1 v", nil},
		step{1, "can 1", said("1 none 1")},
		step{6, "fail 2 1", said("1 err 2")},
	)
	expectLook(t, d, api.Look{})
	expectNothingKept(t, d)
}

func TestRequestComesAgainRetriesTimes(t *testing.T) {
	for retries := range 6 {
		d := beginWith(t, api.Config{Lease: 20, Retries: retries, Cap: 1, Bound: 8})
		// The second one has its number, but none of its past.
		for range 2 {
			play(t, d, step{1, "sub 7 a x", said("1 acc 7")})
			for n := range retries {
				number := strconv.Itoa(n + 1)
				play(t, d,
					step{5, "pull", said("5 run 7 " + number + " a x")},
					step{5, "fail 7 " + number, nil},
				)
				expectLook(t, d, api.Look{Queued: 1})
			}
			number := strconv.Itoa(retries + 1)
			play(t, d,
				step{5, "pull", said("5 run 7 " + number + " a x")},
				step{5, "fail 7 " + number, said("1 err 7")},
			)
			expectNothingKept(t, d)
		}
	}
}

func TestRetriesAreOfEachRequest(t *testing.T) {
	d := beginWith(t, api.Config{Lease: 20, Retries: 1, Cap: 5, Bound: 8})
	play(t, d,
		step{1, "sub 1 a x", said("1 acc 1")},
		step{2, "sub 2 a y", said("2 acc 2")},
		step{5, "pull", said("5 run 1 1 a x")},
		step{5, "pull", said("5 run 2 1 a y")},
		step{5, "fail 1 1", nil},
		step{5, "fail 2 1", nil},
		step{5, "pull", said("5 run 2 2 a y")}, // who comes again waits as the first
		step{5, "pull", said("5 run 1 2 a x")},
		step{5, "fail 1 2", said("1 err 1")},
		step{5, "fail 2 2", said("2 err 2")},
	)
	expectNothingKept(t, d)
}

func TestWhoComesAgainIsItsTenantsFirst(t *testing.T) {
	d := beginWith(t, api.Config{Lease: 20, Retries: 1, Cap: 1, Bound: 2})
	play(t, d,
		step{1, "sub 1 a x", said("1 acc 1")},
		step{5, "pull", said("5 run 1 1 a x")},
		step{1, "sub 2 a y", said("1 acc 2")},
		step{1, "sub 3 b z", said("1 acc 3")},
		step{1, "sub 4 a y", said("1 acc 4")},
		step{5, "fail 1 1", nil}, // beyond Bound, and a keeps its turn
	)
	expectLook(t, d, api.Look{Queued: 4})
	play(t, d,
		step{1, "sub 5 a y", said("1 rej 5 full")},
		step{1, "can 4", said("1 gone 4")},
		step{1, "sub 5 a y", said("1 rej 5 full")}, // 1 and 2 wait
		step{5, "pull", said("5 run 1 2 a x")},
		step{1, "sub 5 a y", said("1 acc 5")},
		step{5, "pull", said("5 run 3 1 b z")},
		step{5, "done 1 2 v", said("1 val 1 v")},
		step{5, "pull", said("5 run 2 1 a y")},
	)
}

func TestTenantWhoseOnlyRequestComesAgainIsTheRingsLast(t *testing.T) {
	d := beginWith(t, api.Config{Lease: 20, Retries: 1, Cap: 1, Bound: 8})
	play(t, d,
		step{1, "sub 1 a x", said("1 acc 1")},
		step{5, "pull", said("5 run 1 1 a x")},
		step{1, "sub 2 b y", said("1 acc 2")},
		step{1, "sub 3 c y", said("1 acc 3")},
		step{5, "fail 1 1", nil},
		step{5, "pull", said("5 run 2 1 b y")},
		step{5, "pull", said("5 run 3 1 c y")},
		step{5, "pull", said("5 run 1 2 a x")},
	)
}

func TestWorkIsHandedOutBehindFail(t *testing.T) {
	d := beginWith(t, api.Config{Lease: 20, Retries: 1, Cap: 1, Bound: 8})
	play(t, d,
		step{1, "sub 1 a x", said("1 acc 1")},
		step{2, "sub 2 a y", said("2 acc 2")},
		step{5, "pull", said("5 run 1 1 a x")},
		step{6, "pull", nil},
		step{5, "pull", nil},
		step{5, "fail 1 1", said("6 run 1 2 a x")},
		step{6, "fail 1 2", said("1 err 1", "5 run 2 1 a y")},
	)
}

func TestFailBesideAnotherAttemptCountsForNothing(t *testing.T) {
	c := api.Config{Lease: 20, Retries: 1, Cap: 2, Bound: 8}
	for _, order := range [][]step{
		{{5, "fail 1 1", nil}, {6, "fail 1 2", nil}},
		{{6, "fail 1 2", nil}, {5, "fail 1 1", nil}},
	} {
		d := twoAttempts(t, c)
		play(t, d, order[0])
		expectLook(t, d, api.Look{Now: 1, Running: 1})
		play(t, d, order[0]) // it is no more
		play(t, d, order[1])
		expectLook(t, d, api.Look{Now: 1, Queued: 1})
		play(t, d,
			step{5, "pull", said("5 run 1 3 a x")},
			step{5, "fail 1 3", said("1 err 1")},
		)
		expectNothingKept(t, d)
	}
}

func TestFailOfOneThatWaitsCountsForNothing(t *testing.T) {
	d := hedged(t, api.Config{Lease: 20, Retries: 0, Cap: 1, Bound: 8})
	play(t, d,
		step{2, "sub 2 a y", said("2 acc 2")},
		step{5, "fail 1 1", nil},
	)
	expectLook(t, d, api.Look{Now: 1, Queued: 2})
	play(t, d,
		step{5, "pull", said("5 run 1 2 a x")},
		step{5, "fail 1 2", said("1 err 1")},
	)
}

func TestOneThatWaitsStaysWhereItIs(t *testing.T) {
	d := beginWith(t, api.Config{Lease: 20, Retries: 0, Cap: 1, Bound: 8, Hedge: 1})
	play(t, d,
		step{1, "sub 1 a x", said("1 acc 1")},
		step{5, "pull", said("5 run 1 1 a x")},
		step{1, "sub 2 a y", said("1 acc 2")},
		step{0, "tick", nil}, // 1 waits behind 2
		step{5, "fail 1 1", nil},
		step{5, "pull", said("5 run 2 1 a y")},
		step{5, "done 2 1 v", said("1 val 2 v")},
		step{5, "pull", said("5 run 1 2 a x")},
	)
}

// P7: beat

func TestBeatRenewsAllOfAConnection(t *testing.T) {
	// A lease of one tick ends with the next, renewed or not.
	for lease := 2; lease <= 20; lease++ {
		d := beginWith(t, api.Config{Lease: lease, Cap: 5, Bound: 8})
		play(t, d,
			step{1, "sub 1 a x", said("1 acc 1")},
			step{1, "sub 2 b x", said("1 acc 2")},
			step{1, "sub 3 a x", said("1 acc 3")},
			step{5, "pull", said("5 run 1 1 a x")},
			step{5, "pull", said("5 run 2 1 b x")},
			step{6, "pull", said("6 run 3 1 a x")},
		)
		ticks(t, d, lease-1)
		play(t, d,
			step{7, "beat", nil}, // it has none
			step{1, "beat", nil}, // whose request it is renews nothing
			step{5, "beat 1", said("5 bad")},
			step{5, "beat", nil},
			step{5, "beat", nil}, // no more than Lease from now
			step{0, "tick", said("6 stop 3 1", "1 err 3")},
		)
		ticks(t, d, lease-2)
		play(t, d, step{0, "tick", said("5 stop 1 1", "1 err 1", "5 stop 2 1", "1 err 2")})
	}
}

func TestBeatKeepsWorkForAnyTime(t *testing.T) {
	d := beginWith(t, api.Config{Lease: 2, Cap: 5, Bound: 8})
	play(t, d,
		step{1, "sub 1 a x", said("1 acc 1")},
		step{5, "pull", said("5 run 1 1 a x")},
	)
	for range 50 {
		play(t, d, step{0, "tick", nil}, step{5, "beat", nil})
	}
	play(t, d,
		step{0, "tick", nil},
		step{0, "tick", said("5 stop 1 1", "1 err 1")},
		step{5, "beat", nil},
	)
	expectNothingKept(t, d)
}

func TestBeatIsOfWhatTheConnectionHasNow(t *testing.T) {
	d := beginWith(t, api.Config{Lease: 3, Retries: 5, Cap: 5, Bound: 8})
	play(t, d,
		step{1, "sub 1 a x", said("1 acc 1")},
		step{5, "pull", said("5 run 1 1 a x")},
		step{5, "fail 1 1", nil},
		step{6, "pull", said("6 run 1 2 a x")},
		step{0, "tick", nil},
		step{5, "beat", nil},
		step{0, "tick", nil},
		step{1, "sub 2 a y", said("1 acc 2")},
		step{6, "beat", nil},
		step{6, "pull", said("6 run 2 1 a y")}, // behind the beat, and ends with the first
		step{0, "tick", nil},
		step{0, "tick", nil},
		step{0, "tick", said("6 stop 1 2", "6 stop 2 1")},
	)
}

// P8: leases

func TestLeaseEndsWhenItsTicksHaveGone(t *testing.T) {
	for lease := 1; lease <= 20; lease++ {
		for _, begun := range []int{0, 1, 30} {
			d := beginWith(t, api.Config{Lease: lease, Retries: 1, Cap: 5, Bound: 8})
			play(t, d, step{1, "sub 1 a x", said("1 acc 1")})
			ticks(t, d, begun)
			play(t, d, step{5, "pull", said("5 run 1 1 a x")})
			ticks(t, d, lease-1)
			expectLook(t, d, api.Look{Now: begun + lease - 1, Running: 1})
			play(t, d, step{0, "tick", said("5 stop 1 1")})
			expectLook(t, d, api.Look{Now: begun + lease, Queued: 1})
			play(t, d,
				step{5, "done 1 1 v", nil},
				step{5, "fail 1 1", nil},
				step{5, "pull", said("5 run 1 2 a x")},
			)
			ticks(t, d, lease-1)
			play(t, d, step{0, "tick", said("5 stop 1 2", "1 err 1")})
			expectNothingKept(t, d)
		}
	}
}

func TestEndOfALeaseAndFailAreCountedAsOne(t *testing.T) {
	d := beginWith(t, api.Config{Lease: 1, Retries: 2, Cap: 5, Bound: 8})
	play(t, d,
		step{1, "sub 1 a x", said("1 acc 1")},
		step{5, "pull", said("5 run 1 1 a x")},
		step{5, "fail 1 1", nil},
		step{5, "pull", said("5 run 1 2 a x")},
		step{0, "tick", said("5 stop 1 2")},
		step{5, "pull", said("5 run 1 3 a x")},
		step{0, "tick", said("5 stop 1 3", "1 err 1")},
	)
}

// Whose lease ends, comes again ahead of the next one's end; work is handed out
// behind all of them.
func TestLeasesEndOneByOne(t *testing.T) {
	d := beginWith(t, api.Config{Lease: 2, Retries: 1, Cap: 2, Bound: 8})
	play(t, d,
		step{1, "sub 1 a x", said("1 acc 1")},
		step{2, "sub 2 a y", said("2 acc 2")},
		step{5, "pull", said("5 run 1 1 a x")},
		step{6, "pull", said("6 run 2 1 a y")},
		step{7, "pull", nil},
		step{5, "pull", nil},
		step{0, "tick", nil},
		step{0, "tick", said("5 stop 1 1", "6 stop 2 1", "7 run 2 2 a y", "5 run 1 2 a x")},
		step{6, "pull", nil},
		step{3, "sub 3 a z", said("3 acc 3")},
		step{0, "tick", nil},
		step{0, "tick", said("7 stop 2 2", "2 err 2", "5 stop 1 2", "1 err 1", "6 run 3 1 a z")},
	)
}

// Of leases that end together: which began first, not which was renewed first.
func TestLeasesThatEndTogetherEndAsTheyBegan(t *testing.T) {
	d := beginWith(t, api.Config{Lease: 5, Cap: 5, Bound: 8})
	for _, n := range []string{"4", "3", "2", "1"} {
		play(t, d,
			step{1, "sub " + n + " a x", said("1 acc " + n)},
			step{10 + int(n[0]-'0'), "pull", said("1" + n + " run " + n + " 1 a x")},
			step{0, "tick", nil},
		)
	}
	for _, conn := range []int{12, 14, 11, 13} {
		play(t, d, step{conn, "beat", nil})
	}
	ticks(t, d, 4)
	play(t, d, step{0, "tick", said(
		"14 stop 4 1", "1 err 4", "13 stop 3 1", "1 err 3",
		"12 stop 2 1", "1 err 2", "11 stop 1 1", "1 err 1",
	)})
	expectNothingKept(t, d)
}

// Many leases, of which any are renewed or end in between.
func TestManyLeases(t *testing.T) {
	const many, lease = 300, 7
	random := rand.New(rand.NewSource(3))
	d := beginWith(t, api.Config{Lease: lease, Cap: 5, Bound: 8})
	ends := map[int]int{} // of the attempts that run, by the request, the connection too
	for id := range many {
		n := strconv.Itoa(id)
		tenant := string([]rune{'a' + rune(id/26), 'a' + rune(id%26)})
		play(t, d,
			step{-1, "sub " + n + " " + tenant + " x", said("-1 acc " + n)},
			step{id, "pull", said(n + " run " + n + " 1 " + tenant + " x")},
		)
		ends[id] = lease
	}
	for now := 1; len(ends) > 0; now++ {
		var want []string
		for id := range many {
			if n := strconv.Itoa(id); ends[id] == now {
				want = append(want, n+" stop "+n+" 1", "-1 err "+n)
				delete(ends, id)
			}
		}
		play(t, d, step{0, "tick", want})
		for id := range many {
			n := strconv.Itoa(id)
			switch _, runs := ends[id]; {
			case !runs || now > 40:
			case random.Intn(3) == 0:
				play(t, d, step{id, "beat", nil})
				ends[id] = now + lease
			case random.Intn(60) == 0:
				play(t, d, step{id, "done " + n + " 1 v", said("-1 val " + n + " v")})
				delete(ends, id)
			}
		}
		expectLook(t, d, api.Look{Now: now, Running: len(ends)})
	}
	expectNothingKept(t, d)
}

func TestRoomBehindTheLeasesHoldsNothing(t *testing.T) {
	d := beginWith(t, api.Config{Lease: 1, Cap: 5, Bound: 8})
	for _, n := range []string{"1", "2", "3"} {
		play(t, d,
			step{1, "sub " + n + " a x", said("1 acc " + n)},
			step{5, "pull", said("5 run " + n + " 1 a x")},
		)
	}
	play(t, d, step{0, "tick", said("5 stop 1 1", "1 err 1", "5 stop 2 1", "1 err 2", "5 stop 3 1", "1 err 3")})
	if whole := d.leases[:cap(d.leases)]; slices.ContainsFunc(whole, func(a *attempt) bool { return a != nil }) {
		t.Errorf("kept: %v", whole)
	}
}

// P8: hedges

func TestHedgedWhenItsTicksHaveGone(t *testing.T) {
	for hedge := 1; hedge <= 20; hedge++ {
		for _, begun := range []int{0, 1, 30} {
			d := beginWith(t, api.Config{Lease: 20, Cap: 5, Bound: 8, Hedge: hedge})
			play(t, d, step{1, "sub 1 a x", said("1 acc 1")})
			ticks(t, d, begun)
			play(t, d,
				step{5, "pull", said("5 run 1 1 a x")},
				step{6, "pull", nil},
			)
			for range hedge - 1 {
				play(t, d, step{0, "tick", nil}, step{5, "beat", nil}) // a beat is no beginning
			}
			expectLook(t, d, api.Look{Now: begun + hedge - 1, Running: 1, Waiting: 1})
			play(t, d, step{0, "tick", said("6 run 1 2 a x")})
			expectLook(t, d, api.Look{Now: begun + hedge, Running: 2})
		}
	}
}

func TestHedgeOfNoughtIsNever(t *testing.T) {
	d := beginWith(t, api.Config{Lease: 20, Cap: 5, Bound: 8})
	play(t, d,
		step{1, "sub 1 a x", said("1 acc 1")},
		step{5, "pull", said("5 run 1 1 a x")},
		step{6, "pull", nil},
	)
	for range 60 {
		play(t, d, step{0, "tick", nil}, step{5, "beat", nil})
	}
	expectLook(t, d, api.Look{Now: 60, Running: 1, Waiting: 1})
}

func TestHedgedOnce(t *testing.T) {
	d := twoAttempts(t, api.Config{Lease: 20, Retries: 1, Cap: 5, Bound: 8})
	ticks(t, d, 3) // it has two
	play(t, d, step{7, "pull", nil}, step{5, "fail 1 1", nil})
	ticks(t, d, 3) // it has one alone, but was hedged
	play(t, d, step{6, "fail 1 2", said("7 run 1 3 a x")})
	ticks(t, d, 3) // also where it has come again
	expectLook(t, d, api.Look{Now: 10, Running: 1})
}

func TestOneThatWaitsIsNotHedgedOnceMore(t *testing.T) {
	d := hedged(t, api.Config{Lease: 20, Retries: 1, Cap: 1, Bound: 8})
	ticks(t, d, 5)
	expectLook(t, d, api.Look{Now: 6, Queued: 1, Running: 1})
	play(t, d, step{5, "done 1 1 v", said("1 val 1 v")})
	expectNothingKept(t, d)
}

// A number that is taken anew is of another request, which may be hedged.
func TestHedgedIsOfTheRequest(t *testing.T) {
	d := twoAttempts(t, api.Config{Lease: 20, Cap: 5, Bound: 8})
	play(t, d,
		step{6, "done 1 2 v", said("1 val 1 v", "5 stop 1 1")},
		step{1, "sub 1 a x", said("1 acc 1")},
		step{5, "pull", said("5 run 1 1 a x")},
		step{6, "pull", nil},
		step{0, "tick", said("6 run 1 2 a x")},
	)
}

// Where the first attempt was lost ahead of its hedge, a later one is hedged.
func TestLaterAttemptIsHedged(t *testing.T) {
	d := beginWith(t, api.Config{Lease: 20, Retries: 1, Cap: 5, Bound: 8, Hedge: 2})
	play(t, d,
		step{1, "sub 1 a x", said("1 acc 1")},
		step{5, "pull", said("5 run 1 1 a x")},
		step{0, "tick", nil},
		step{5, "fail 1 1", nil},
		step{5, "pull", said("5 run 1 2 a x")},
		step{6, "pull", nil},
		step{0, "tick", nil}, // two ticks ago its first began, which is no more
		step{0, "tick", said("6 run 1 3 a x")},
	)
}

func TestHedgesComeInTheOrderOfBeginnings(t *testing.T) {
	d := beginWith(t, api.Config{Lease: 20, Cap: 2, Bound: 8, Hedge: 3})
	for i, name := range []string{"c", "b", "a", "b"} {
		n := strconv.Itoa(i)
		play(t, d,
			step{1, "sub " + n + " " + name + " x", said("1 acc " + n)},
			step{5 + i, "pull", said(strconv.Itoa(5+i) + " run " + n + " 1 " + name + " x")},
		)
	}
	// Neither by when their leases end.
	play(t, d, step{0, "tick", nil}, step{5, "beat", nil}, step{0, "tick", nil}, step{6, "beat", nil})
	play(t, d, step{0, "tick", nil})
	expectLook(t, d, api.Look{Now: 3, Queued: 4, Running: 4})
	play(t, d,
		step{9, "pull", said("9 run 0 2 c x")},
		step{9, "pull", said("9 run 2 2 a x")}, // b has its two
		step{9, "pull", nil},
		step{6, "fail 1 1", said("9 run 1 2 b x")},
	)
}

func TestHedgedWaitsAsItsTenantsLast(t *testing.T) {
	d := beginWith(t, api.Config{Lease: 20, Cap: 3, Bound: 1, Hedge: 2})
	play(t, d,
		step{1, "sub 1 a x", said("1 acc 1")},
		step{5, "pull", said("5 run 1 1 a x")},
		step{1, "sub 2 a y", said("1 acc 2")},
		step{5, "pull", said("5 run 2 1 a y")},
		step{1, "sub 3 a z", said("1 acc 3")},
		step{1, "sub 4 b z", said("1 acc 4")},
		step{0, "tick", nil},
		step{0, "tick", nil}, // whatever Bound says
	)
	expectLook(t, d, api.Look{Now: 2, Queued: 4, Running: 2})
	play(t, d,
		step{1, "can 3", said("1 gone 3")},
		step{1, "sub 3 a z", said("1 rej 3 full")}, // 1 and 2 wait, beside their attempts
		step{5, "pull", said("5 run 1 2 a x")},     // the same connection, and a keeps its turn
		step{1, "sub 3 a z", said("1 rej 3 full")},
		step{6, "pull", said("6 run 4 1 b z")},
		step{6, "pull", nil}, // a has its three
		step{5, "done 1 2 v", said("1 val 1 v", "5 stop 1 1", "6 run 2 2 a y")},
		step{1, "sub 3 a z", said("1 acc 3")},
	)
}

// Ends of leases come ahead of hedges: what has come again has nothing to wait
// beside, and what ends in the same tick is not hedged.
func TestLeasesEndAheadOfHedges(t *testing.T) {
	d := beginWith(t, api.Config{Lease: 2, Retries: 5, Cap: 5, Bound: 8, Hedge: 2})
	play(t, d,
		step{1, "sub 1 a x", said("1 acc 1")},
		step{1, "sub 2 a y", said("1 acc 2")},
		step{5, "pull", said("5 run 1 1 a x")},
		step{6, "pull", said("6 run 2 1 a y")},
		step{0, "tick", nil},
		step{6, "beat", nil},
		step{0, "tick", said("5 stop 1 1")},
	)
	expectLook(t, d, api.Look{Now: 2, Queued: 2, Running: 1})
	play(t, d,
		step{7, "pull", said("7 run 1 2 a x")},
		step{7, "beat", nil},
		step{7, "pull", said("7 run 2 2 a y")},
		step{6, "beat", nil},
		step{0, "tick", nil},
		step{7, "beat", nil},
		step{8, "pull", nil},
		step{0, "tick", said("6 stop 2 1", "8 run 1 3 a x")}, // 1 had not been hedged yet
	)
}

func TestEndOfALeaseOfTwo(t *testing.T) {
	d := twoAttempts(t, api.Config{Lease: 3, Retries: 0, Cap: 2, Bound: 8})
	play(t, d,
		step{0, "tick", nil},
		step{0, "tick", said("5 stop 1 1")}, // it has another
		step{0, "tick", said("6 stop 1 2", "1 err 1")},
	)
	expectNothingKept(t, d)
}

func TestTwoAttemptsOfOneConnection(t *testing.T) {
	d := hedged(t, api.Config{Lease: 3, Retries: 0, Cap: 2, Bound: 8})
	play(t, d,
		step{5, "pull", said("5 run 1 2 a x")},
		step{0, "tick", nil},
		step{5, "beat", nil},
		step{0, "tick", nil},
		step{0, "tick", nil},
		step{5, "fail 1 1", nil},
		step{5, "fail 1 1", nil},
		step{0, "tick", said("5 stop 1 2", "1 err 1")},
	)
	expectNothingKept(t, d)
}
