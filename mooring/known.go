package mooring

import (
	"lagan/api"
	"lagan/terms"
)

// known is what is known of the things of a kind, by their indexes: of kinds of ground what they hold, of winds how strong they are.
type known[I ~int] struct {
	reaches     []api.Reach
	least, most int // what it can be at all
}

func (b book) grounds() known[api.MooringKind] {
	return known[api.MooringKind]{reaches: b.Grounds, least: 0, most: api.MaxMooringHold}
}

func (b book) strengths() known[int] {
	var reaches []api.Reach
	for _, w := range b.Winds {
		reaches = append(reaches, w.Strength)
	}
	return known[int]{reaches: reaches, least: 1, most: api.MaxMooringStrength}
}

func (k known[I]) has(i I) bool { return terms.Within(int(i), 0, len(k.reaches)-1) }

// checkReach returns the hitch of what is known of a thing.
func (k known[I]) checkReach(i I) api.Hitch {
	narrow := terms.IsNarrow(k.reaches[i], k.least, k.most, api.MaxMooringWide)
	return terms.HitchUnless(narrow, api.Bounds)
}

// checkNumbers returns the hitch of numbers that things are to have in a case.
func (k known[I]) checkNumbers(numbers []int) api.Hitch {
	return terms.CheckEach(numbers, k.least, k.most)
}

// learn returns what is known of a thing once it is known to be in x, too.
func (k known[I]) learn(i I, x api.Reach) (api.Reach, api.Hitch) {
	if !k.has(i) {
		return api.Reach{}, api.Missing
	}
	if !terms.IsReach(x, k.least, k.most) {
		return api.Reach{}, api.Bounds
	}
	common, ok := terms.Common(k.reaches[i], x)
	return common, terms.HitchUnless(ok, api.Adrift)
}
