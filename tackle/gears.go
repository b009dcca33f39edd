package tackle

import (
	"slices"

	"lagan/api"
	"lagan/terms"
)

// rated is a book with a case, and the greatest load that each gear surely lifts.
type rated struct {
	checked
	mosts []int
}

// ratedOf checks a book, and finds what its gears surely lift.
func ratedOf(b api.TackleBook) (rated, api.Hitch) {
	c, h := check(b)
	if h != api.Smooth {
		return rated{}, h
	}
	if !c.hasCase() {
		return rated{}, api.Adrift
	}
	return c.rated(nil), api.Smooth
}

// rated returns what gears surely lift once some parts are new; a goroutine for each gear looks at it.
func (c checked) rated(renewed []int) rated {
	r := rated{checked: c, mosts: make([]int, len(c.Gears))}
	look := func(gear int) (haul, bool) { return c.most(gear, renewed), true }
	for _, x := range terms.Sift(c.gears(), look) {
		r.mosts[x.gear] = x.load
	}
	return r
}

// gears returns the indexes of all gears.
func (b book) gears() []int { return terms.Indexes(len(b.Gears)) }

// most returns the greatest load that a gear lifts in each case once some parts are new. It lifts what is less than a load that it lifts, too, and a load of 0 always.
func (c checked) most(gear int, renewed []int) haul {
	r := c.reckoner()
	x := haul{gear: gear, load: api.MaxTackleLoad}
	for w := range c.wears() {
		for !r.lifts(w.renewed(renewed), x) {
			x.load--
		}
	}
	return x
}

// lifts tells whether a gear surely lifts a piece, which can be as heavy as its weight is at most, whatever parts bear.
func (r rated) lifts(gear int, p api.TacklePiece) bool { return p.Weight.Most <= r.mosts[gear] }

// suffice tells whether each piece surely is lifted by one of some gears.
func (r rated) suffice(gears []int) bool {
	for _, p := range r.Pieces {
		if !slices.ContainsFunc(gears, func(gear int) bool { return r.lifts(gear, p) }) {
			return false
		}
	}
	return true
}

// sufficesRenewed tells whether each piece surely is lifted by some gear once some parts are new.
func (c checked) sufficesRenewed(parts []int) bool { return c.rated(parts).suffice(c.gears()) }

// share returns the least list of a gear for each piece which surely lifts it, each piece another one, and whether there is one.
func (r rated) share() ([]int, bool) {
	whichever := api.Reach{Least: 0, Most: len(r.Gears) - 1}
	for gears := range terms.Numberings(slices.Repeat([]api.Reach{whichever}, len(r.Pieces))) {
		if r.isShare(gears) {
			return gears, true
		}
	}
	return nil, false
}

func (r rated) isShare(gears []int) bool {
	for piece, gear := range gears {
		if slices.Contains(gears[:piece], gear) || !r.lifts(gear, r.Pieces[piece]) {
			return false
		}
	}
	return true
}
