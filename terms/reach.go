// Package terms holds what the sections Terms and Rules of DOC.md say for all layers: reaches, hitches, cases, lists, and the forms of texts.
package terms

import (
	"iter"
	"slices"

	"lagan/api"
)

// Within tells whether n is from least to most.
func Within(n, least, most int) bool { return least <= n && n <= most }

// IsReach tells whether r is a reach from a to b.
func IsReach(r api.Reach, a, b int) bool {
	return a <= r.Least && r.Least <= r.Most && r.Most <= b
}

// IsNarrow tells whether r is a reach from a to b that has so many numbers at most.
func IsNarrow(r api.Reach, a, b, numbers int) bool {
	return IsReach(r, a, b) && r.Most-r.Least < numbers
}

// Has tells whether n is one of the numbers of r.
func Has(r api.Reach, n int) bool { return Within(n, r.Least, r.Most) }

// Common returns what two reaches have in common, and whether that is something.
func Common(r, x api.Reach) (api.Reach, bool) {
	c := api.Reach{Least: max(r.Least, x.Least), Most: min(r.Most, x.Most)}
	if c.Least > c.Most {
		return api.Reach{}, false
	}
	return c, true
}

// Numberings yields each list that has a number of each of several reaches, in their order; the least list comes first.
func Numberings(reaches []api.Reach) iter.Seq[[]int] {
	return func(yield func([]int) bool) {
		list := make([]int, len(reaches))
		var fill func(i int) bool
		fill = func(i int) bool {
			if i == len(reaches) {
				return yield(slices.Clone(list))
			}
			for n := reaches[i].Least; n <= reaches[i].Most; n++ {
				list[i] = n
				if !fill(i + 1) {
					return false
				}
			}
			return true
		}
		fill(0)
	}
}

// Span returns the reach from the least to the greatest of several numbers, or Adrift if there are none.
func Span(numbers []int) (api.Reach, api.Hitch) {
	if len(numbers) == 0 {
		return api.Reach{}, api.Adrift
	}
	least, most := Bounds(numbers[0], numbers[1:]...)
	return api.Reach{Least: least, Most: most}, api.Smooth
}
