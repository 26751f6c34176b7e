package dispatch

import (
	"math/rand"
	"slices"
	"strconv"
	"strings"
	"testing"

	"dispatch/api"
)

// model: the promises once more, without lists: what comes first is what has the
// least stamp. Slow and plain, to be held against the program.
type model struct {
	api.Config
	stamps int
	now    int
	open   map[int]*modelRequest
	turns  map[string]int // tenants in the ring
	pulls  map[int]int    // connections that wait for work
	said   []string
}

type modelRequest struct {
	id, conn, begun int
	tenant, text    string
	waits           int         // the stamp of when it began to; 0: it does not
	attempts        map[int]int // the connections of those that run, by their numbers
}

func newModel(c api.Config) *model {
	return &model{Config: c, open: map[int]*modelRequest{}, turns: map[string]int{}, pulls: map[int]int{}}
}

func (m *model) stamp() int {
	m.stamps++
	return m.stamps
}

func (m *model) say(conn int, words ...string) {
	m.said = append(m.said, strconv.Itoa(conn)+" "+strings.Join(words, " "))
}

// least: the key with the least stamp, of those that may be taken.
func least[K comparable](stamps map[K]int, may func(K) bool) (K, bool) {
	var best K
	found := false
	for k, s := range stamps {
		if may(k) && (!found || s < stamps[best]) {
			best, found = k, true
		}
	}
	return best, found
}

func (m *model) waiting(tenant string) map[int]int {
	stamps := map[int]int{}
	for id, r := range m.open {
		if r.tenant == tenant && r.waits > 0 {
			stamps[id] = r.waits
		}
	}
	return stamps
}

func (m *model) running(tenant string) int {
	n := 0
	for _, r := range m.open {
		if r.tenant == tenant {
			n += len(r.attempts)
		}
	}
	return n
}

func (m *model) call(conn int, text string) []string {
	m.said = nil
	w := append(strings.Split(text, " "), "", "", "")
	id, _ := strconv.Atoi(w[1])
	switch w[0] {
	case "sub":
		m.sub(conn, id, w[2], w[3])
	case "can":
		m.can(conn, id)
	case "pull":
		if m.pulls[conn] == 0 {
			m.pulls[conn] = m.stamp()
		}
	case "done":
		m.done(conn, id, w[2], w[3])
	case "tick":
		m.now++
	}
	m.hand()
	return m.said
}

func (m *model) sub(conn, id int, tenant, text string) {
	switch n := strconv.Itoa(id); {
	case m.open[id] != nil:
		m.say(conn, "rej", n, "dup")
	case len(m.waiting(tenant)) >= m.Bound:
		m.say(conn, "rej", n, "full")
	default:
		m.open[id] = &modelRequest{id: id, conn: conn, tenant: tenant, text: text, waits: m.stamp(), attempts: map[int]int{}}
		if m.turns[tenant] == 0 {
			m.turns[tenant] = m.stamp()
		}
		m.say(conn, "acc", n)
	}
}

func (m *model) can(conn, id int) {
	if r := m.open[id]; r == nil || r.conn != conn {
		m.say(conn, "none", strconv.Itoa(id))
		return
	}
	m.say(conn, "gone", strconv.Itoa(id))
	m.shut(id)
}

func (m *model) done(conn, id int, number, text string) {
	att, _ := strconv.Atoi(number)
	r := m.open[id]
	if r == nil {
		return
	}
	if worker, runs := r.attempts[att]; runs && worker == conn {
		m.say(r.conn, "val", strconv.Itoa(id), text)
		delete(r.attempts, att)
		m.shut(id)
	}
}

func (m *model) shut(id int) {
	r := m.open[id]
	for att := range r.begun + 1 {
		if worker, runs := r.attempts[att]; runs {
			m.say(worker, "stop", strconv.Itoa(id), strconv.Itoa(att))
		}
	}
	delete(m.open, id)
	if len(m.waiting(r.tenant)) == 0 {
		delete(m.turns, r.tenant)
	}
}

func (m *model) hand() {
	each := func(int) bool { return true }
	for {
		conn, pulls := least(m.pulls, each)
		tenant, has := least(m.turns, func(n string) bool { return m.running(n) < m.Cap })
		if !pulls || !has {
			return
		}
		delete(m.pulls, conn)
		id, _ := least(m.waiting(tenant), each)
		r := m.open[id]
		r.waits = 0
		delete(m.turns, tenant)
		if len(m.waiting(tenant)) > 0 {
			m.turns[tenant] = m.stamp()
		}
		r.begun++
		r.attempts[r.begun] = conn
		m.say(conn, "run", strconv.Itoa(id), strconv.Itoa(r.begun), tenant, r.text)
	}
}

func (m *model) lookAt() api.Look {
	look := api.Look{Now: m.now, Waiting: len(m.pulls)}
	for _, r := range m.open {
		look.Running += len(r.attempts)
		if r.waits > 0 {
			look.Queued++
		}
	}
	return look
}

func randomCall(r *rand.Rand) (int, string) {
	pick := func(words ...string) string { return words[r.Intn(len(words))] }
	id := strconv.Itoa(r.Intn(20))
	switch r.Intn(12) {
	case 0, 1, 2, 3:
		return r.Intn(3), "sub " + id + " " + pick("a", "b", "α", "βγ") + " " + pick("x", "é")
	case 4:
		return r.Intn(3), "can " + id
	case 5, 6, 7:
		return r.Intn(6), "pull"
	default:
		return r.Intn(6), "done " + id + " " + pick("1", "1", "1", "2") + " " + pick("v", "ω")
	}
}

func TestAgainstModel(t *testing.T) {
	r := rand.New(rand.NewSource(1))
	spoken := map[string]int{}
	for round := range 200 {
		c := api.Config{Lease: 20, Cap: 1 + round%5, Bound: 1 + round%8}
		d, m := beginWith(t, c), newModel(c)
		for n := range 400 {
			conn, text := randomCall(r)
			got, want := words(call(d, conn, text)), m.call(conn, text)
			if !slices.Equal(got, want) {
				t.Fatalf("%v, call %d, %d %q: %q, want %q", c, n, conn, text, got, want)
			}
			if got, want := d.Look(), m.lookAt(); got != want {
				t.Fatalf("%v, call %d, %d %q: Look %v, want %v", c, n, conn, text, got, want)
			}
			for _, line := range got {
				spoken[strings.Fields(line)[1]]++
			}
		}
	}
	for _, word := range []string{"acc", "rej", "none", "gone", "stop", "run", "val"} {
		if spoken[word] < 100 {
			t.Errorf("%q was said %d times only: %v", word, spoken[word], spoken)
		}
	}
}
