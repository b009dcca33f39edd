package terms

import (
	"cmp"
	"iter"
	"maps"
	"slices"

	"lagan/api"
)

// Many returns how many cases there are, or how many of what else is yielded.
func Many[C any](cases iter.Seq[C]) int {
	all := 0
	for range cases {
		all++
	}
	return all
}

// First returns the first case, or the first of what else is yielded, and whether there is one.
func First[C any](cases iter.Seq[C]) (first C, found bool) {
	for x := range cases {
		return x, true
	}
	return first, false
}

// HasCase tells whether there is a case.
func HasCase[C any](cases iter.Seq[C]) bool {
	_, found := First(cases)
	return found
}

// IsOneOf tells whether a case is one of several.
func IsOneOf[C comparable](cases iter.Seq[C], want C) bool {
	for x := range cases {
		if x == want {
			return true
		}
	}
	return false
}

// Count returns in how many cases something is so, and how many there are.
func Count[C any](cases iter.Seq[C], isSo func(C) bool) (yes, all int) {
	for x := range cases {
		if isSo(x) {
			yes++
		}
		all++
	}
	return yes, all
}

// Known returns how well something is known, or Adrift if there is no case.
func Known[C any](cases iter.Seq[C], isSo func(C) bool) (api.Known, api.Hitch) {
	yes, all := Count(cases, isSo)
	switch {
	case all == 0:
		return api.Unsure, api.Adrift
	case yes == all:
		return api.Surely, api.Smooth
	case yes == 0:
		return api.Never, api.Smooth
	}
	return api.Unsure, api.Smooth
}

// Found returns what is told of cases, each thing once, in order.
func Found[C any, K comparable](cases iter.Seq[C], tell func(C) K, inOrder func(a, b K) int) []K {
	found := map[K]bool{}
	for x := range cases {
		found[tell(x)] = true
	}
	return slices.SortedFunc(maps.Keys(found), inOrder)
}

// Told returns the numbers that are told of cases, ascending, or Adrift if there is no case.
func Told[C any](cases iter.Seq[C], tell func(C) int) ([]int, api.Hitch) {
	numbers := Found(cases, tell, cmp.Compare[int])
	return numbers, HitchUnless(len(numbers) > 0, api.Adrift)
}

// News returns a book in which something is new, if it has no hitch and a case.
func News[B, K any](b B, check func(B) (K, api.Hitch), hasCase func(K) bool) (news B, h api.Hitch) {
	checked, h := check(b)
	if h != api.Smooth {
		return news, h
	}
	if !hasCase(checked) {
		return news, api.Adrift
	}
	return b, api.Smooth
}

// Ask returns the index of what is to be asked, and how many cases are left then in the worst case, which left tells of each thing; -1, and how many cases there are, if nothing leaves fewer.
func Ask(cases int, left []int) (index, fewest int) {
	index, fewest = -1, cases
	for i, many := range left {
		if many < fewest {
			index, fewest = i, many
		}
	}
	return index, fewest
}

// Worst returns how many cases are left in the worst case, once it is known what is told of them.
func Worst[C any, K comparable](cases iter.Seq[C], tell func(C) K) int {
	left := map[K]int{}
	most := 0
	for x := range cases {
		told := tell(x)
		left[told]++
		most = max(most, left[told])
	}
	return most
}

// Clash returns the fewest of several things with which alone there is no case, by their indexes; none if there is one with any of them.
func Clash(many int, hasCase func(indexes []int) bool) []int {
	clashing, _ := FewestSuch(many, func(indexes []int) bool { return !hasCase(indexes) })
	return clashing
}
