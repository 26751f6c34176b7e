package wire

import "dispatch/api"

const (
	blank     = ' '
	tailBytes = 1 + 2*len(Sum{}) // the blank and the sum's digits
)

// Seal: a text as a line, without its end.
func Seal(text string) string {
	return text + string(blank) + SumOf(text).String()
}

// Open: the text of a line; false, if the line is too long or its sum is wrong.
func Open(line string) (string, bool) {
	cut := len(line) - tailBytes
	if len(line) > api.MaxLine || cut < 0 || line[cut] != blank {
		return "", false
	}
	text := line[:cut]
	sum, ok := readSum(line[cut+1:])
	if !ok || sum != SumOf(text) {
		return "", false
	}
	return text, true
}
