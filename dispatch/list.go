package dispatch

import "slices"

// find: the first in a list that is so; the zero value, if none is.
func find[T any](list []T, so func(T) bool) T {
	for _, one := range list {
		if so(one) {
			return one
		}
	}
	var none T
	return none
}

// all: those in a list that are so, in a list of their own.
func all[T any](list []T, so func(T) bool) []T {
	var those []T
	for _, one := range list {
		if so(one) {
			those = append(those, one)
		}
	}
	return those
}

// without: the list, in its own room, without one that it may hold (once).
func without[T comparable](list []T, gone T) []T {
	switch i := slices.Index(list, gone); i {
	case -1:
		return list
	case 0:
		// Most go from the front: a long list need not move up for that. What
		// stays behind there must hold nothing.
		clear(list[:1])
		return list[1:]
	default:
		return slices.Delete(list, i, i+1)
	}
}
