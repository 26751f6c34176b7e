package dispatch

// leases: the attempts that run, as container/heap asks for them: the first is
// the one whose lease ends first, of several the one that began first.
type leases []*attempt

func (l leases) Len() int { return len(l) }

func (l leases) Less(i, j int) bool {
	if l[i].leaseEnds != l[j].leaseEnds {
		return l[i].leaseEnds < l[j].leaseEnds
	}
	return l[i].serial < l[j].serial
}

// Swap: each attempt knows its place, so that its lease is renewed or taken out
// there, and need not be looked for.
func (l leases) Swap(i, j int) {
	l[i], l[j] = l[j], l[i]
	l[i].place, l[j].place = i, j
}

func (l *leases) Push(x any) {
	a := x.(*attempt)
	a.place = len(*l)
	*l = append(*l, a)
}

func (l *leases) Pop() any {
	last := len(*l) - 1
	a := (*l)[last]
	// What stays in the room behind the end must hold nothing.
	(*l)[last] = nil
	*l = (*l)[:last]
	return a
}
