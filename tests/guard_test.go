package tests

import (
	"slices"
	"testing"
)

// guardedBy returns a copy of list with a guard before it and, as unused capacity,
// one behind it, and a function that reports whether all this is as it was.
func guardedBy[E comparable](list, guard []E) ([]E, func() bool) {
	whole := slices.Concat(guard, list, guard)
	before := slices.Clone(whole)
	return whole[len(guard) : len(guard)+len(list)], func() bool { return slices.Equal(whole, before) }
}

// overwrite changes every element of list, and all of its unused capacity.
func overwrite[E any](list []E, by E) {
	for len(list) < cap(list) {
		list = append(list, by)
	}
	for i := range list {
		list[i] = by
	}
}

// checkOwnMemory checks that the answers of call share no memory with the list that
// it is given, or with each other. No answer may have an element of the guard.
func checkOwnMemory[E comparable](t *testing.T, name string, list, guard []E, call func([]E) []E) {
	t.Helper()
	given, kept := guardedBy(list, guard)
	first, second := call(given), call(given)
	want := slices.Clone(first)
	if !kept() {
		t.Errorf("%s changed %v, or what is beside it", name, list)
	}
	if !slices.Equal(second, want) {
		t.Errorf("%s of %v answers %v, and again %v", name, list, want, second)
	}
	overwrite(first, guard[0])
	if !kept() {
		t.Errorf("%s of %v answers memory of its argument", name, list)
	}
	if !slices.Equal(second, want) {
		t.Errorf("two answers of %s of %v share memory", name, list)
	}
	overwrite(given, guard[0])
	if !slices.Equal(second, want) {
		t.Errorf("%s of %v answers memory that is changed with its argument", name, list)
	}
	given, kept = guardedBy(list, guard)
	third := append(call(given), guard[0])
	if !kept() || !slices.Equal(third[:len(third)-1], want) {
		t.Errorf("an answer of %s of %v cannot be appended to", name, list)
	}
}
