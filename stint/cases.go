package stint

import (
	"iter"

	"lagan/api"
	"lagan/terms"
)

// depths are those of each place; 0 of places that the book does not have.
type depths [api.MaxStintPlaces]int

// depthCase is a case that can be compared, and the stay at each place in it.
type depthCase struct {
	depths depths
	stays  [api.MaxStintPlaces]int
}

// newCase returns what a case that has no hitch says, whether it is a case of the book or not.
func (c checked) newCase(d depths) depthCase {
	x := depthCase{depths: d}
	for i := range c.Places {
		x.stays[i] = c.stay(d[i])
	}
	return x
}

// handedIn makes depths that have no hitch a case that can be compared.
func (c checked) handedIn(list []int) depthCase {
	var d depths
	copy(d[:], list)
	return c.newCase(d)
}

// agrees tells whether all soundings are right.
func (c checked) agrees(x depthCase) bool {
	for _, s := range c.Soundings {
		if (cast{place: s.Place, line: s.Line}).touches(x) != s.Bottom {
			return false
		}
	}
	return true
}

// cases yields each case of the book.
func (c checked) cases() iter.Seq[depthCase] {
	return func(yield func(depthCase) bool) {
		for list := range terms.Numberings(c.Places) {
			x := c.handedIn(list)
			if c.agrees(x) && !yield(x) {
				return
			}
		}
	}
}

// hasCase tells whether there is a case.
func (c checked) hasCase() bool { return terms.HasCase(c.cases()) }

func (c checked) isCase(x depthCase) bool { return terms.IsOneOf(c.cases(), x) }

// spot asks of a case about the place with this index.
type spot int

func (s spot) depth(x depthCase) int { return x.depths[s] }

func (s spot) stay(x depthCase) int { return x.stays[s] }

// cast asks of a case about a line that is let down at a place.
type cast struct{ place, line int }

func (k cast) touches(x depthCase) bool { return x.depths[k.place] <= k.line }

// casts returns what can be sounded: each place with each line, in order.
func (c checked) casts() []cast {
	var all []cast
	for place := range c.Places {
		for line := range api.MaxStintDepth + 1 {
			all = append(all, cast{place: place, line: line})
		}
	}
	return all
}

// ask returns what is to be sounded, with -1 for both if nothing leaves fewer cases, and how many are left then, at most.
func (c checked) ask() (best cast, left int) {
	casts := c.casts()
	var lefts []int
	for _, k := range casts {
		lefts = append(lefts, terms.Worst(c.cases(), k.touches))
	}
	i, left := terms.Ask(terms.Many(c.cases()), lefts)
	if i < 0 {
		return cast{place: -1, line: -1}, left
	}
	return casts[i], left
}

// only returns the book with no other soundings than those of a list.
func (c checked) only(soundings []int) checked {
	o := c
	o.Soundings = terms.Pick(c.Soundings, soundings)
	return o
}

// canBe tells whether there is a case with the soundings of a list alone.
func (c checked) canBe(soundings []int) bool { return c.only(soundings).hasCase() }
