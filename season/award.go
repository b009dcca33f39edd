package season

import (
	"slices"

	"lagan/api"
	"lagan/terms"
)

const hundred = 100

// award is an award that may have a hitch.
type award struct{ api.SeasonAward }

// awardChecks returns what is looked at for hitches of an award, in order.
func awardChecks() []terms.Part[award] {
	return []terms.Part[award]{
		{Check: award.checkNumbers},
		{Count: award.countMen, Most: api.MaxSeasonMen, Each: award.checkMan},
	}
}

// checkAward returns the hitch of an award, or Smooth.
func checkAward(a api.SeasonAward) api.Hitch { return terms.CheckParts(award{a}, awardChecks()...) }

func (a award) checkNumbers() api.Hitch {
	hasValue := terms.IsNarrow(a.Value, 0, api.MaxSeasonValue, api.MaxSeasonWide)
	return terms.HitchUnless(hasValue && isHundredths(a.Crown) && isHundredths(a.Owner), api.Bounds)
}

func isHundredths(n int) bool { return terms.Within(n, 0, hundred) }

func (a award) countMen() int { return len(a.Men) }

func (a award) checkMan(i int) api.Hitch {
	if h := terms.CheckName(a.Men, i, nameOf); h != api.Smooth {
		return h
	}
	return terms.HitchUnless(terms.Within(a.Men[i].Shares, 0, api.MaxSeasonShares), api.Bounds)
}

func nameOf(m api.SeasonMan) string { return m.Name }

func (a award) hasMan(i int) bool { return terms.Within(i, 0, len(a.Men)-1) }

// division is what the crown, the owner and each man have of a value.
type division struct {
	crown, owner int
	men          []int
}

// list returns what all have, in order.
func (d division) list() []int { return slices.Concat([]int{d.crown, d.owner}, d.men) }

// shares returns what all have of a value, in order, or Bounds.
func (a award) shares(value int) ([]int, api.Hitch) {
	if !terms.Within(value, 0, api.MaxSeasonValue) {
		return nil, api.Bounds
	}
	return a.divide(value).list(), api.Smooth
}

// divide shares a value out.
func (a award) divide(value int) division {
	crown := value * a.Crown / hundred
	owner := (value - crown) * a.Owner / hundred
	men, left := a.amongMen(value - crown - owner)
	return division{crown: crown, owner: owner + left, men: men}
}

// amongMen returns what each man has of what is left to them, and what is left still: all of it, if nobody has shares.
func (a award) amongMen(value int) (men []int, left int) {
	men = make([]int, len(a.Men))
	all := a.allShares()
	if all == 0 {
		return men, value
	}
	left = value
	for i, m := range a.Men {
		men[i] = value * m.Shares / all
		left -= men[i]
	}
	// What is left over is less than a farthing for each man who has shares.
	for i, m := range a.Men {
		if m.Shares > 0 && left > 0 {
			men[i]++
			left--
		}
	}
	return men, left
}

// allShares returns the shares of all men together.
func (a award) allShares() int {
	all := 0
	for _, m := range a.Men {
		all += m.Shares
	}
	return all
}

// share returns what a man has, at least and at most, of all values that there can be.
func (a award) share(man int) (api.Reach, api.Hitch) {
	var has []int
	for value := a.Value.Least; value <= a.Value.Most; value++ {
		has = append(has, a.divide(value).men[man])
	}
	return terms.Span(has)
}
