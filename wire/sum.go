// Package wire: texts as sealed lines, and lines out of bytes that come in pieces.
package wire

import "strings"

const digits = "0123456789abcdef"

// Sum: of a text. Compared by ==.
type Sum [4]byte

// SumOf: the sum of any text, valid UTF-8 or not.
func SumOf(text string) Sum {
	var s Sum
	for i := range len(text) {
		s[i%len(s)] = 3*s[i%len(s)] + text[i]
	}
	return s
}

// String: the sum as it stands in a line.
func (s Sum) String() string {
	var b strings.Builder
	for _, part := range s {
		b.WriteByte(digits[part>>4])
		b.WriteByte(digits[part&15])
	}
	return b.String()
}

// readSum: strconv would take the capitals A to F too, which are no digits of a sum.
func readSum(text string) (Sum, bool) {
	var s Sum
	if len(text) != 2*len(s) {
		return Sum{}, false
	}
	for i := range s {
		high := strings.IndexByte(digits, text[2*i])
		low := strings.IndexByte(digits, text[2*i+1])
		if high < 0 || low < 0 {
			return Sum{}, false
		}
		s[i] = byte(high<<4 | low)
	}
	return s, true
}
