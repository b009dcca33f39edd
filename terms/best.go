package terms

import (
	"cmp"
	"slices"
)

// Best returns the best of several things, by an order in which it is the least; the first one if they are equally good.
func Best[T any](compare func(a, b T) int, first T, others ...T) T {
	for _, x := range others {
		if compare(x, first) < 0 {
			first = x
		}
	}
	return first
}

// Fewest compares lists by how many elements they have, and then by these.
func Fewest(a, b []int) int {
	return cmp.Or(cmp.Compare(len(a), len(b)), slices.Compare(a, b))
}
