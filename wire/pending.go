package wire

import "dispatch/api"

// One byte more than a line may have is enough to tell that it is too long,
// however many come: so a line that never ends takes no more room than that.
const mostKept = api.MaxLine + 1

// Pending: the bytes of a line that is not ended.
type Pending struct {
	kept []byte
}

// Add: bytes behind those that are there; none of them ends the line.
func (p *Pending) Add(piece string) {
	room := mostKept - len(p.kept)
	p.kept = append(p.kept, piece[:min(room, len(piece))]...)
}

// End: the line is ended, and the next one begins.
func (p *Pending) End() string {
	line := string(p.kept)
	p.kept = p.kept[:0]
	return line
}

// Empty: whether no byte of a line is there.
func (p *Pending) Empty() bool {
	return len(p.kept) == 0
}
