package dispatch

import (
	"slices"
	"testing"
)

func TestFind(t *testing.T) {
	above := func(low int) func(int) bool {
		return func(n int) bool { return n > low }
	}
	list := []int{3, 8, 5, 9}
	for low, want := range map[int]int{0: 3, 3: 8, 8: 9, 9: 0} {
		if got := find(list, above(low)); got != want {
			t.Errorf("the first above %d: %d, want %d", low, got, want)
		}
	}
	if got := find(nil, above(0)); got != 0 {
		t.Errorf("in no list: %d", got)
	}
}

func TestAll(t *testing.T) {
	list := []int{3, 8, 5, 9}
	for low, want := range map[int][]int{0: {3, 8, 5, 9}, 3: {8, 5, 9}, 8: {9}, 9: nil} {
		got := all(list, func(n int) bool { return n > low })
		if !slices.Equal(got, want) {
			t.Errorf("all above %d: %v, want %v", low, got, want)
		}
		for i := range got {
			got[i] = -1
		}
	}
	if !slices.Equal(list, []int{3, 8, 5, 9}) {
		t.Errorf("the list itself was written: %v", list)
	}
}

func TestWithout(t *testing.T) {
	for gone, want := range map[int][]int{3: {8, 5}, 8: {3, 5}, 5: {3, 8}, 4: {3, 8, 5}} {
		whole := []int{3, 8, 5}
		if got := without(whole, gone); !slices.Equal(got, want) {
			t.Errorf("without %d: %v, want %v", gone, got, want)
		}
		if len(want) < 3 && slices.Contains(whole, gone) {
			t.Errorf("without %d: it is kept in the list's room: %v", gone, whole)
		}
	}
	if got := without(nil, 1); len(got) != 0 {
		t.Errorf("no list: %v", got)
	}
}
