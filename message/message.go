// Package message: texts as messages.
package message

import (
	"strconv"
	"strings"
	"unicode/utf8"

	"dispatch/api"
)

const (
	firstDigit, lastDigit = '0', '9'
	firstLatin, lastLatin = 'a', 'z'
	firstGreek, lastGreek = '\u03b1', '\u03c9'
	firstPlain, lastPlain = '\u0021', '\u007e'
	firstOther, lastOther = '\u00a1', '\uffff'
)

// The first words of messages: what they ask for.
const (
	Sub   = "sub"
	Can   = "can"
	Pull  = "pull"
	Beat  = "beat"
	Done  = "done"
	Fail  = "fail"
	Drain = "drain"
)

// Message: what a text asks for. A part that its kind does not have is zero.
type Message struct {
	Verb        string
	ID, Attempt int
	Tenant      string
	Text        string
}

// Read: the message that a text is; false, if it is none.
func Read(text string) (Message, bool) {
	words := strings.Split(text, " ")
	m := Message{Verb: words[0]}
	if !m.take(words[1:]) {
		return Message{}, false
	}
	return m, true
}

func (m *Message) take(words []string) bool {
	id, attempt := number(&m.ID), number(&m.Attempt)
	switch m.Verb {
	case Pull, Beat, Drain:
		return fits(words)
	case Can:
		return fits(words, id)
	case Fail:
		return fits(words, id, attempt)
	case Sub:
		return fits(words, id, word(&m.Tenant, isTenant), word(&m.Text, isPayload))
	case Done:
		return fits(words, id, attempt, word(&m.Text, isPayload))
	}
	return false
}

// field: takes the word that stands in its place, if it is one that may stand there.
type field func(word string) bool

func fits(words []string, fields ...field) bool {
	if len(words) != len(fields) {
		return false
	}
	for i, takes := range fields {
		if !takes(words[i]) {
			return false
		}
	}
	return true
}

func number(into *int) field {
	return func(word string) bool {
		if !isNumber(word) {
			return false
		}
		n, err := strconv.Atoi(word)
		*into = n
		return err == nil
	}
}

func word(into *string, may func(string) bool) field {
	return func(word string) bool {
		*into = word
		return may(word)
	}
}

func isNumber(word string) bool {
	return consists(word, api.MaxDigits, isDigit) && (word == "0" || word[0] != firstDigit)
}

func isTenant(word string) bool {
	return consists(word, api.MaxTenant, isTenantLetter)
}

func isPayload(word string) bool {
	return consists(word, api.MaxText, isTextLetter)
}

func consists(word string, most int, is func(rune) bool) bool {
	// Asked first: range gives U+FFFD for a byte that is no UTF-8, and that is
	// a letter of a payload where it is written out.
	if !utf8.ValidString(word) {
		return false
	}
	count := 0
	for _, letter := range word {
		if !is(letter) {
			return false
		}
		count++
	}
	return 1 <= count && count <= most
}

func isDigit(letter rune) bool {
	return firstDigit <= letter && letter <= lastDigit
}

func isTenantLetter(letter rune) bool {
	return firstLatin <= letter && letter <= lastLatin ||
		firstGreek <= letter && letter <= lastGreek
}

func isTextLetter(letter rune) bool {
	return firstPlain <= letter && letter <= lastPlain ||
		firstOther <= letter && letter <= lastOther
}
