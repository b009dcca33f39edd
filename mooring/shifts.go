package mooring

import (
	"cmp"
	"iter"
	"slices"

	"lagan/api"
	"lagan/terms"
)

// proven is a book with a case, and what each anchor surely holds where a wind is so strong.
type proven struct {
	checked
	holds map[gust]holds
}

// prove finds what the anchors of a book surely hold; Adrift if there is no case.
func (c checked) prove() (proven, api.Hitch) {
	p := proven{checked: c, holds: map[gust]holds{}}
	for x := range c.cases() {
		for wind := range c.Winds {
			p.note(c.breeze(wind).gust(x), c.holdsIn(x))
		}
	}
	return p, terms.HitchUnless(len(p.holds) > 0, api.Adrift)
}

// note keeps what anchors hold in a case with a gust, where it is less than in those before.
func (p proven) note(g gust, h holds) {
	if before, ok := p.holds[g]; ok {
		for anchor := range h {
			h[anchor] = min(h[anchor], before[anchor])
		}
	}
	p.holds[g] = h
}

// first returns the least spare of a wind in any case, of several ones that of the first anchor, and whether an anchor bears.
func (p proven) first(wind int) (spare, bool) {
	var all []spare
	for g, h := range p.holds {
		if g.wind == wind {
			all = append(all, p.spares(g, h)...)
		}
	}
	return terms.Ranking[spare](compareSpares).Best(all)
}

func compareSpares(a, b spare) int {
	return cmp.Or(cmp.Compare(a.strength, b.strength), cmp.Compare(a.anchor, b.anchor))
}

// isSafe tells whether she surely rides in all winds.
func (p proven) isSafe() bool {
	for g, h := range p.holds {
		if !p.ridesOut(g, h) {
			return false
		}
	}
	return true
}

// shifted returns the book with an anchor at another place. The ground is of the same kind there: what the anchor holds stays as it was.
func (p proven) shifted(anchor int, to api.MooringPlace) proven {
	o := p
	o.Anchors = slices.Clone(p.Anchors)
	o.Anchors[anchor].At = to
	return o
}

// places yields all places at which an anchor can lie.
func places() iter.Seq[api.MooringPlace] {
	return func(yield func(api.MooringPlace) bool) {
		far := api.Reach{Least: -api.MaxMooringFar, Most: api.MaxMooringFar}
		for list := range terms.Numberings([]api.Reach{far, far}) {
			at := api.MooringPlace{East: list[0], North: list[1]}
			if checkPlace(at) == api.Smooth && !yield(at) {
				return
			}
		}
	}
}

// feet returns by how many feet an anchor is shifted.
func feet(from, to api.MooringPlace) int {
	east, north := to.East-from.East, to.North-from.North
	return max(east, -east) + max(north, -north)
}

// good returns the places to which an anchor can be shifted so that she surely rides in all winds, and by how many feet it is shifted there.
func (p proven) good(anchor int) map[api.MooringPlace]int {
	from := p.Anchors[anchor].At
	good := map[api.MooringPlace]int{}
	for at := range places() {
		if at != from && p.shifted(anchor, at).isSafe() {
			good[at] = feet(from, at)
		}
	}
	return good
}

// shift is one of an anchor to another place.
type shift struct {
	feet, anchor int
	to           api.MooringPlace
}

// shifts returns the shifts of an anchor by which she surely rides in all winds, in any order.
func (p proven) shifts(anchor int) []shift {
	var all []shift
	for at, feet := range p.good(anchor) {
		all = append(all, shift{feet: feet, anchor: anchor, to: at})
	}
	return all
}

// shift returns the best shift by which she surely rides in all winds, of the anchor -1 if she does already, and whether there is one.
func (p proven) shift() (shift, bool) {
	none := shift{anchor: -1}
	if p.isSafe() {
		return none, true
	}
	// A goroutine for each anchor tries its shifts.
	all := terms.Gather(terms.Indexes(len(p.Anchors)), p.shifts)
	best, found := terms.Ranking[shift](compareShifts).Best(all)
	if !found {
		return none, false
	}
	return best, true
}

func compareShifts(a, b shift) int {
	return cmp.Or(cmp.Compare(a.feet, b.feet), cmp.Compare(a.anchor, b.anchor), cmp.Compare(a.to.North, b.to.North), cmp.Compare(a.to.East, b.to.East))
}
