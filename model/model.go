// Package model has what the tests of all layers reckon in slow and plain ways of their own, beside the program; no layer calls it.
package model

import (
	"cmp"
	"slices"

	"lagan/api"
)

// In tells whether n is one of the numbers of r.
func In(r api.Reach, n int) bool { return r.Least <= n && n <= r.Most }

// Contains tells whether all has each one of some.
func Contains[T comparable](all, some []T) bool {
	for _, x := range some {
		if !slices.Contains(all, x) {
			return false
		}
	}
	return true
}

// UpTo returns the numbers below n.
func UpTo(n int) []int {
	var all []int
	for i := range n {
		all = append(all, i)
	}
	return all
}

// Lists returns all lists of numbers below n that are ascending.
func Lists(n int) [][]int {
	if n == 0 {
		return [][]int{{}}
	}
	all := Lists(n - 1)
	for _, l := range all[:len(all):len(all)] {
		all = append(all, append(slices.Clone(l), n-1))
	}
	return all
}

// CompareLists compares by how many elements there are, and then by these.
func CompareLists(a, b []int) int {
	return cmp.Or(cmp.Compare(len(a), len(b)), slices.Compare(a, b))
}

// FewestOf returns the fewest numbers below n of which something is so, and whether there are any.
func FewestOf(n int, isSo func(list []int) bool) (fewest []int, found bool) {
	for _, l := range Lists(n) {
		if (!found || CompareLists(l, fewest) < 0) && isSo(l) {
			fewest, found = l, true
		}
	}
	return fewest, found
}

// Permutations returns all orders of some numbers, the least list first if they are ascending.
func Permutations(numbers []int) [][]int {
	if len(numbers) == 0 {
		return [][]int{nil}
	}
	var all [][]int
	for i, n := range numbers {
		rest := slices.Concat(numbers[:i], numbers[i+1:])
		for _, l := range Permutations(rest) {
			all = append(all, append([]int{n}, l...))
		}
	}
	return all
}

// Numberings returns all lists of a number of each reach.
func Numberings(reaches []api.Reach) [][]int {
	all := [][]int{nil}
	for _, r := range reaches {
		var longer [][]int
		for _, l := range all {
			for n := r.Least; n <= r.Most; n++ {
				longer = append(longer, append(slices.Clone(l), n))
			}
		}
		all = longer
	}
	return all
}

// Known returns how well something is known, by all cases of a book.
func Known[C any](cases []C, isSo func(C) bool) api.Known {
	isNot := func(x C) bool { return !isSo(x) }
	if !slices.ContainsFunc(cases, isNot) {
		return api.Surely
	}
	if !slices.ContainsFunc(cases, isSo) {
		return api.Never
	}
	return api.Unsure
}

// NumbersOf returns what is told of cases, ascending.
func NumbersOf[C any](cases []C, tell func(C) int) []int {
	var all []int
	for _, x := range cases {
		all = append(all, tell(x))
	}
	slices.Sort(all)
	return slices.Compact(all)
}

// T is a test that is told what is wrong.
type T interface {
	Helper()
	Errorf(format string, args ...any)
}

// CheckZero checks that calls have a hitch; each of them tells whether all its other results are zero values, and returns its hitch.
func CheckZero(t T, want api.Hitch, calls ...func() (bool, api.Hitch)) {
	t.Helper()
	for i, call := range calls {
		if zero, h := call(); !zero || h != want {
			t.Errorf("call %d: zero values: %v, %v, want %v", i, zero, h, want)
		}
	}
}
