package tests

import (
	"slices"
	"testing"
)

// withRoom returns a copy of list with spare capacity, and the whole array below it.
func withRoom(list []int) (copied, whole []int) {
	whole = append(slices.Clone(list), 91, 92, 93)
	return whole[:len(list)], whole
}

// overwrite changes all that is reachable through list, its spare capacity included.
func overwrite(list []int) {
	for i := range list[:cap(list)] {
		list[:cap(list)][i] = -77
	}
}

// checkMemory fails the test if the function changes one of the lists, or if its result shares memory with a list or with the result of another call.
func checkMemory(t *testing.T, name string, function func(lists [][]int) []int, lists ...[]int) {
	t.Helper()
	var given, wholes, before [][]int
	for _, list := range lists {
		copied, whole := withRoom(list)
		given = append(given, copied)
		wholes = append(wholes, whole)
		before = append(before, slices.Clone(whole))
	}
	checkUnchanged := func(when string) {
		t.Helper()
		for i, whole := range wholes {
			if !slices.Equal(whole, before[i]) {
				t.Errorf("%s of %v: argument %d is %v %s", name, lists, i, whole, when)
			}
		}
	}
	first := function(given)
	checkUnchanged("after the call")
	second := function(given)
	kept := slices.Clone(second)
	overwrite(first)
	checkUnchanged("after the result is overwritten")
	if !slices.Equal(second, kept) {
		t.Errorf("%s of %v: two results share memory", name, lists)
	}
	for _, whole := range wholes {
		overwrite(whole)
	}
	if !slices.Equal(second, kept) {
		t.Errorf("%s of %v: the result is %v after the arguments are overwritten", name, lists, second)
	}
}

// checkApart fails the test if two of the lists, all of one result, share memory.
func checkApart(t *testing.T, name string, lists ...[]int) {
	t.Helper()
	for i, list := range lists {
		var kept [][]int
		for _, other := range lists {
			kept = append(kept, slices.Clone(other[:cap(other)]))
		}
		overwrite(list)
		for j, other := range lists {
			if i != j && !slices.Equal(other[:cap(other)], kept[j]) {
				t.Errorf("%s: the lists %d and %d of the result share memory", name, i, j)
			}
		}
	}
}
