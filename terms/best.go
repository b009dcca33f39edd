package terms

import (
	"cmp"
	"slices"
)

// Best returns the best of several things, by an order in which it is the least; the first one if they are equally good.
func Best[T any](compare func(a, b T) int, first T, others ...T) T {
	for _, x := range others {
		if compare(x, first) < 0 {
			first = x
		}
	}
	return first
}

// Ranking is an order of things in which the best one is the least.
type Ranking[T any] func(a, b T) int

// Best returns the best of several things, the first one if they are equally good, and whether there are any.
func (r Ranking[T]) Best(things []T) (best T, found bool) {
	if len(things) == 0 {
		return best, false
	}
	return Best(r, things[0], things[1:]...), true
}

// Fewest compares lists by how many elements they have, and then by these.
func Fewest(a, b []int) int {
	return cmp.Or(cmp.Compare(len(a), len(b)), slices.Compare(a, b))
}

// FewestSuch returns the fewest indexes below many of which something is so, and whether it is so of any, or of none of them.
func FewestSuch(many int, isSo func(indexes []int) bool) (fewest []int, found bool) {
	such := Gather(Lists(many), func(indexes []int) [][]int {
		if isSo(indexes) {
			return [][]int{indexes}
		}
		return nil
	})
	return Ranking[[]int](Fewest).Best(such)
}

// Bounds returns the least and the greatest of several numbers.
func Bounds[N cmp.Ordered](first N, others ...N) (least, most N) {
	least, most = first, first
	for _, n := range others {
		least, most = min(least, n), max(most, n)
	}
	return least, most
}

// Indexes returns all indexes below many, ascending.
func Indexes(many int) []int {
	var all []int
	for i := range many {
		all = append(all, i)
	}
	return all
}

// Lists returns all lists of indexes below many, ascending each; the last one has all of them.
func Lists(many int) [][]int {
	all := [][]int{nil}
	for i := range many {
		// What is appended is not gone through: each list so far is joined by the same one with this index.
		for _, l := range all {
			all = append(all, append(slices.Clone(l), i))
		}
	}
	return all
}

// Pick returns the things with some indexes.
func Pick[T any](things []T, indexes []int) []T {
	var picked []T
	for _, i := range indexes {
		picked = append(picked, things[i])
	}
	return picked
}
