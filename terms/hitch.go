package terms

import "lagan/api"

// HitchUnless returns the hitch, or Smooth if all is well.
func HitchUnless(well bool, h api.Hitch) api.Hitch {
	if well {
		return api.Smooth
	}
	return h
}

// CheckIndexes returns the hitch of a list that is to have indexes below many, ascending.
func CheckIndexes(list []int, many int) api.Hitch {
	for i, n := range list {
		if !Within(n, 0, many-1) {
			return api.Missing
		}
		if i > 0 && n <= list[i-1] {
			return api.Crossed
		}
	}
	return api.Smooth
}
