package terms

import (
	"iter"

	"lagan/api"
)

// Many returns how many cases there are.
func Many[C any](cases iter.Seq[C]) int {
	all := 0
	for range cases {
		all++
	}
	return all
}

// HasCase tells whether there is a case.
func HasCase[C any](cases iter.Seq[C]) bool {
	for range cases {
		return true
	}
	return false
}

// Count returns in how many cases something is so, and how many there are.
func Count[C any](cases iter.Seq[C], isSo func(C) bool) (yes, all int) {
	for x := range cases {
		if isSo(x) {
			yes++
		}
		all++
	}
	return yes, all
}

// Known returns how well something is known, or Adrift if there is no case.
func Known[C any](cases iter.Seq[C], isSo func(C) bool) (api.Known, api.Hitch) {
	yes, all := Count(cases, isSo)
	switch {
	case all == 0:
		return api.Unsure, api.Adrift
	case yes == all:
		return api.Surely, api.Smooth
	case yes == 0:
		return api.Never, api.Smooth
	}
	return api.Unsure, api.Smooth
}
