// Package message: which texts are messages.
package message

import (
	"strings"
	"unicode/utf8"

	"dispatch/api"
)

const (
	firstDigit, lastDigit = '0', '9'
	firstLatin, lastLatin = 'a', 'z'
	firstGreek, lastGreek = '\u03b1', '\u03c9'
	firstPlain, lastPlain = '\u0021', '\u007e'
	firstOther, lastOther = '\u00a1', '\uffff'
)

// Is: whether a text is a message.
func Is(text string) bool {
	words := strings.Split(text, " ")
	rest := words[1:]
	switch words[0] {
	case "pull", "beat", "drain":
		return fits(rest)
	case "can":
		return fits(rest, isNumber)
	case "fail":
		return fits(rest, isNumber, isNumber)
	case "sub":
		return fits(rest, isNumber, isTenant, isPayload)
	case "done":
		return fits(rest, isNumber, isNumber, isPayload)
	}
	return false
}

func fits(words []string, kinds ...func(string) bool) bool {
	if len(words) != len(kinds) {
		return false
	}
	for i, is := range kinds {
		if !is(words[i]) {
			return false
		}
	}
	return true
}

func isNumber(word string) bool {
	return consists(word, api.MaxDigits, isDigit) && (word == "0" || word[0] != firstDigit)
}

func isTenant(word string) bool {
	return consists(word, api.MaxTenant, isTenantLetter)
}

func isPayload(word string) bool {
	return consists(word, api.MaxText, isTextLetter)
}

func consists(word string, most int, is func(rune) bool) bool {
	// Asked first: range gives U+FFFD for a byte that is no UTF-8, and that is
	// a letter of a payload where it is written out.
	if !utf8.ValidString(word) {
		return false
	}
	count := 0
	for _, letter := range word {
		if !is(letter) {
			return false
		}
		count++
	}
	return 1 <= count && count <= most
}

func isDigit(letter rune) bool {
	return firstDigit <= letter && letter <= lastDigit
}

func isTenantLetter(letter rune) bool {
	return firstLatin <= letter && letter <= lastLatin ||
		firstGreek <= letter && letter <= lastGreek
}

func isTextLetter(letter rune) bool {
	return firstPlain <= letter && letter <= lastPlain ||
		firstOther <= letter && letter <= lastOther
}
