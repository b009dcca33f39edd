// Package terms holds what the sections Terms and Rules of DOC.md say for all layers: reaches, hitches, cases, lists, and the forms of texts.
package terms

import "lagan/api"

// Within tells whether n is from least to most.
func Within(n, least, most int) bool { return least <= n && n <= most }

// IsReach tells whether r is a reach from a to b.
func IsReach(r api.Reach, a, b int) bool {
	return a <= r.Least && r.Least <= r.Most && r.Most <= b
}

// IsNarrow tells whether r is a reach from a to b that has so many numbers at most.
func IsNarrow(r api.Reach, a, b, numbers int) bool {
	return IsReach(r, a, b) && r.Most-r.Least < numbers
}

// Has tells whether n is one of the numbers of r.
func Has(r api.Reach, n int) bool { return Within(n, r.Least, r.Most) }

// Common returns what two reaches have in common, and whether that is something.
func Common(r, x api.Reach) (api.Reach, bool) {
	c := api.Reach{Least: max(r.Least, x.Least), Most: min(r.Most, x.Most)}
	if c.Least > c.Most {
		return api.Reach{}, false
	}
	return c, true
}
