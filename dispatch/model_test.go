package dispatch

import (
	"math/rand"
	"slices"
	"strconv"
	"strings"
	"testing"

	"dispatch/api"
)

// modelIDs: numbers of requests are below it.
const modelIDs = 20

// model: the promises once more, without lists: what comes first is what has the
// least stamp. Slow and plain, to be held against the program.
type model struct {
	api.Config
	stamps int
	now    int
	open   map[int]*modelRequest
	turns  map[string]int // tenants in the ring
	pulls  map[int]int    // connections that wait for work
	drains map[int]int    // 1: a connection drains; 2: and was told bye
	said   []string
	hedges int // how many there have been, which nobody is told
	backs  int // how many requests wait again as their connection was closed, the same
}

type modelRequest struct {
	id, conn, begun, again int
	tenant, text           string
	hedged                 bool
	waits                  int // a stamp, below 0 if it came as the first; 0: it does not
	attempts               map[int]*modelAttempt
}

type modelAttempt struct {
	id, number, conn, stamp, began, ends int
}

func newModel(c api.Config) *model {
	return &model{Config: c, open: map[int]*modelRequest{}, turns: map[string]int{}, pulls: map[int]int{}, drains: map[int]int{}}
}

func (m *model) stamp() int {
	m.stamps++
	return m.stamps
}

func (m *model) say(conn int, words ...string) {
	m.said = append(m.said, strconv.Itoa(conn)+" "+strings.Join(words, " "))
}

// least: the key with the least stamp, of those that may be taken.
func least[K comparable](stamps map[K]int, may func(K) bool) (K, bool) {
	var best K
	found := false
	for k, s := range stamps {
		if may(k) && (!found || s < stamps[best]) {
			best, found = k, true
		}
	}
	return best, found
}

func (m *model) waiting(tenant string) map[int]int {
	stamps := map[int]int{}
	for id, r := range m.open {
		if r.tenant == tenant && r.waits != 0 {
			stamps[id] = r.waits
		}
	}
	return stamps
}

func (m *model) running(tenant string) int {
	n := 0
	for _, r := range m.open {
		if r.tenant == tenant {
			n += len(r.attempts)
		}
	}
	return n
}

// runs: those that may be taken, as they began.
func (m *model) runs(may func(*modelAttempt) bool) []*modelAttempt {
	var list []*modelAttempt
	for _, r := range m.open {
		for _, a := range r.attempts {
			if may(a) {
				list = append(list, a)
			}
		}
	}
	slices.SortFunc(list, func(a, b *modelAttempt) int { return a.stamp - b.stamp })
	return list
}

func (m *model) runsOf(conn int) []*modelAttempt {
	return m.runs(func(a *modelAttempt) bool { return a.conn == conn })
}

func (m *model) bye(conn int) {
	if m.drains[conn] == 1 && len(m.runsOf(conn)) == 0 {
		m.drains[conn] = 2
		m.say(conn, "bye")
	}
}

func (m *model) call(conn int, text string) []string {
	m.said = nil
	w := append(strings.Split(text, " "), "", "", "")
	id, _ := strconv.Atoi(w[1])
	switch w[0] {
	case "sub":
		m.sub(conn, id, w[2], w[3])
	case "can":
		m.can(conn, id)
	case "pull":
		if m.pulls[conn] == 0 && m.drains[conn] == 0 {
			m.pulls[conn] = m.stamp()
		}
	case "done":
		m.done(conn, id, w[2], w[3])
	case "beat":
		for _, a := range m.runsOf(conn) {
			a.ends = m.now + m.Lease
		}
	case "fail":
		if m.end(conn, id, w[2]) {
			m.bye(conn)
			m.comeAgain(m.open[id])
		}
	case "drain":
		m.drains[conn] = max(1, m.drains[conn])
		delete(m.pulls, conn)
		m.bye(conn)
	case "tick":
		m.tick()
	case "close":
		m.close(conn)
	}
	m.hand()
	return m.said
}

func (m *model) sub(conn, id int, tenant, text string) {
	switch n := strconv.Itoa(id); {
	case m.open[id] != nil:
		m.say(conn, "rej", n, "dup")
	case len(m.waiting(tenant)) >= m.Bound:
		m.say(conn, "rej", n, "full")
	default:
		m.open[id] = &modelRequest{id: id, conn: conn, tenant: tenant, text: text, attempts: map[int]*modelAttempt{}}
		m.wait(m.open[id], 1)
		m.say(conn, "acc", n)
	}
}

func (m *model) can(conn, id int) {
	if r := m.open[id]; r == nil || r.conn != conn {
		m.say(conn, "none", strconv.Itoa(id))
		return
	}
	m.say(conn, "gone", strconv.Itoa(id))
	m.shut(id)
}

func (m *model) done(conn, id int, number, text string) {
	if m.end(conn, id, number) {
		m.say(m.open[id].conn, "val", strconv.Itoa(id), text)
		m.bye(conn)
		m.shut(id)
	}
}

// wait: sign is 1 for its tenant's last, and -1 for its first.
func (m *model) wait(r *modelRequest, sign int) {
	if m.turns[r.tenant] == 0 {
		m.turns[r.tenant] = m.stamp()
	}
	r.waits = sign * m.stamp()
}

func (m *model) end(conn, id int, number string) bool {
	att, _ := strconv.Atoi(number)
	r := m.open[id]
	if r == nil || r.attempts[att] == nil || r.attempts[att].conn != conn {
		return false
	}
	delete(r.attempts, att)
	return true
}

func (m *model) comeAgain(r *modelRequest) {
	if r.waits != 0 || len(r.attempts) > 0 {
		return
	}
	if r.again == m.Retries {
		m.say(r.conn, "err", strconv.Itoa(r.id))
		m.shut(r.id)
		return
	}
	r.again++
	m.wait(r, -1)
}

func (m *model) tick() {
	m.now++
	for _, a := range m.runs(func(a *modelAttempt) bool { return a.ends == m.now }) {
		m.say(a.conn, "stop", strconv.Itoa(a.id), strconv.Itoa(a.number))
		r := m.open[a.id]
		delete(r.attempts, a.number)
		m.bye(a.conn)
		m.comeAgain(r)
	}
	if m.Hedge == 0 {
		return
	}
	for _, a := range m.runs(func(a *modelAttempt) bool { return m.now-a.began >= m.Hedge }) {
		r := m.open[a.id]
		if r.waits == 0 && len(r.attempts) == 1 && !r.hedged {
			r.hedged = true
			m.hedges++
			m.wait(r, 1)
		}
	}
}

func (m *model) shut(id int) {
	r := m.open[id]
	for att := range r.begun + 1 {
		if a := r.attempts[att]; a != nil {
			m.say(a.conn, "stop", strconv.Itoa(id), strconv.Itoa(att))
			delete(r.attempts, att)
			m.bye(a.conn)
		}
	}
	delete(m.open, id)
	if len(m.waiting(r.tenant)) == 0 {
		delete(m.turns, r.tenant)
	}
}

func (m *model) close(conn int) {
	delete(m.pulls, conn)
	delete(m.drains, conn)
	for id := range modelIDs {
		r := m.open[id]
		if r == nil || r.conn != conn {
			continue
		}
		for att, a := range r.attempts {
			if a.conn == conn {
				delete(r.attempts, att)
			}
		}
		m.shut(id)
	}
	for _, a := range m.runsOf(conn) {
		r := m.open[a.id]
		delete(r.attempts, a.number)
		if r.waits == 0 && len(r.attempts) == 0 {
			m.backs++
			m.wait(r, -1)
		}
	}
}

func (m *model) hand() {
	each := func(int) bool { return true }
	for {
		conn, pulls := least(m.pulls, each)
		tenant, has := least(m.turns, func(n string) bool { return m.running(n) < m.Cap })
		if !pulls || !has {
			return
		}
		delete(m.pulls, conn)
		id, _ := least(m.waiting(tenant), each)
		r := m.open[id]
		r.waits = 0
		delete(m.turns, tenant)
		if len(m.waiting(tenant)) > 0 {
			m.turns[tenant] = m.stamp()
		}
		r.begun++
		r.attempts[r.begun] = &modelAttempt{id, r.begun, conn, m.stamp(), m.now, m.now + m.Lease}
		m.say(conn, "run", strconv.Itoa(id), strconv.Itoa(r.begun), tenant, r.text)
	}
}

func (m *model) lookAt() api.Look {
	look := api.Look{Now: m.now, Waiting: len(m.pulls)}
	for _, r := range m.open {
		look.Running += len(r.attempts)
		if r.waits != 0 {
			look.Queued++
		}
	}
	return look
}

// anAttempt: mostly one that runs, of its connection.
func (m *model) anAttempt(r *rand.Rand) (int, string) {
	list := m.runs(func(*modelAttempt) bool { return true })
	if len(list) == 0 || r.Intn(4) == 0 {
		return r.Intn(6), strconv.Itoa(r.Intn(modelIDs)) + " " + strconv.Itoa(r.Intn(4))
	}
	a := list[r.Intn(len(list))]
	return a.conn, strconv.Itoa(a.id) + " " + strconv.Itoa(a.number)
}

func (m *model) randomCall(r *rand.Rand) (int, string) {
	pick := func(words ...string) string { return words[r.Intn(len(words))] }
	id := strconv.Itoa(r.Intn(modelIDs))
	switch r.Intn(34) / 2 {
	case 0, 1, 2, 3:
		return r.Intn(3), "sub " + id + " " + pick("a", "b", "α", "βγ") + " " + pick("x", "é")
	case 4:
		return r.Intn(3), "can " + id
	case 5, 6, 7:
		return r.Intn(6), "pull"
	case 8, 9:
		conn, att := m.anAttempt(r)
		return conn, "done " + att + " " + pick("v", "ω")
	case 10, 11:
		conn, att := m.anAttempt(r)
		return conn, "fail " + att
	case 12:
		return r.Intn(6), "beat"
	case 13:
		return r.Intn(6), pick("drain", "close")
	default:
		return 0, "tick"
	}
}

func TestAgainstModel(t *testing.T) {
	r := rand.New(rand.NewSource(1))
	spoken := map[string]int{}
	for range 1000 {
		c := api.Config{Lease: 1 + r.Intn(20), Retries: r.Intn(6), Cap: 1 + r.Intn(5), Bound: 1 + r.Intn(8), Hedge: r.Intn(21)}
		d, m := beginWith(t, c), newModel(c)
		for n := range 400 {
			conn, text := m.randomCall(r)
			got, want := words(call(d, conn, text)), m.call(conn, text)
			if !slices.Equal(got, want) {
				t.Fatalf("%v, call %d, %d %q: %q, want %q", c, n, conn, text, got, want)
			}
			if got, want := d.Look(), m.lookAt(); got != want {
				t.Fatalf("%v, call %d, %d %q: Look %v, want %v", c, n, conn, text, got, want)
			}
			for _, line := range got {
				spoken[strings.Fields(line)[1]]++
			}
		}
		spoken["(hedged)"] += m.hedges
		spoken["(given back)"] += m.backs
	}
	for _, word := range []string{"acc", "rej", "none", "gone", "stop", "run", "val", "err", "bye", "(hedged)", "(given back)"} {
		if spoken[word] < 100 {
			t.Errorf("%q was said %d times only: %v", word, spoken[word], spoken)
		}
	}
}
