package dispatch

import (
	"strconv"
	"strings"

	"dispatch/api"
	"dispatch/wire"
)

// talk: what is said by one call. Each call has its own, so that the list that
// it hands out is nobody else's.
type talk struct {
	outs []api.Out
}

func (t *talk) say(conn int, parts ...any) {
	words := make([]string, 0, len(parts))
	for _, part := range parts {
		switch p := part.(type) {
		case string:
			words = append(words, p)
		case int:
			words = append(words, strconv.Itoa(p))
		}
	}
	line := wire.Seal(strings.Join(words, " "))
	t.outs = append(t.outs, api.Out{Conn: conn, Line: line})
}
