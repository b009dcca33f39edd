package tackle

import (
	"iter"
	"slices"

	"lagan/api"
	"lagan/terms"
)

// wear is what each part bears; 0 of parts that the book does not have.
type wear [api.MaxTackleParts]int

// heft is what each piece weighs; 0 of pieces that the book does not have.
type heft [api.MaxTacklePieces]int

// rigging is a case that can be compared.
type rigging struct {
	wear wear
	heft heft
}

// wearOf returns what parts bear by a list.
func wearOf(bears []int) wear {
	var w wear
	copy(w[:], bears)
	return w
}

// heftOf returns what pieces weigh by a list.
func heftOf(weights []int) heft {
	var h heft
	copy(h[:], weights)
	return h
}

// handedIn makes a case that has no hitch one that can be compared.
func handedIn(x api.TackleCase) rigging {
	return rigging{wear: wearOf(x.Bears), heft: heftOf(x.Weights)}
}

// renewed returns what parts bear once some of them are new.
func (w wear) renewed(parts []int) wear {
	for _, part := range parts {
		w[part] = api.MaxTackleLoad
	}
	return w
}

// agrees tells whether all tests are right.
func (r reckoner) agrees(w wear) bool {
	for _, t := range r.Tests {
		if r.lifts(w, haulOf(t)) != t.Held {
			return false
		}
	}
	return true
}

// wears yields all that parts bear in cases.
func (c checked) wears() iter.Seq[wear] {
	var reaches []api.Reach
	for _, p := range c.Parts {
		reaches = append(reaches, p.Bears)
	}
	return func(yield func(wear) bool) {
		r := c.reckoner()
		for list := range terms.Numberings(reaches) {
			if w := wearOf(list); r.agrees(w) && !yield(w) {
				return
			}
		}
	}
}

// casesOf yields the cases in which parts bear what they do in one; no test tells what pieces weigh.
func (c checked) casesOf(w wear) iter.Seq[rigging] {
	var reaches []api.Reach
	for _, p := range c.Pieces {
		reaches = append(reaches, p.Weight)
	}
	return func(yield func(rigging) bool) {
		for list := range terms.Numberings(reaches) {
			if !yield(rigging{wear: w, heft: heftOf(list)}) {
				return
			}
		}
	}
}

// cases yields each case of the book.
func (c checked) cases() iter.Seq[rigging] {
	return func(yield func(rigging) bool) {
		for w := range c.wears() {
			for x := range c.casesOf(w) {
				if !yield(x) {
					return
				}
			}
		}
	}
}

// hasCase tells whether there is a case.
func (c checked) hasCase() bool { return terms.HasCase(c.cases()) }

func (c checked) isCase(x rigging) bool {
	return terms.IsOneOf(c.wears(), x.wear) && terms.IsOneOf(c.casesOf(x.wear), x)
}

// strand asks of a case about the part with this index.
type strand int

func (i strand) bears(x rigging) int { return x.wear[i] }

// cargo asks of a case about the piece with this index.
type cargo int

func (i cargo) weighs(x rigging) int { return x.heft[i] }

// lift asks of a case about a gear and a piece.
type lift struct {
	reckoner
	gear, piece int
}

func (l lift) isDone(x rigging) bool {
	return l.lifts(x.wear, haul{gear: l.gear, load: x.heft[l.piece]})
}

// trial asks of what parts bear about a load on a gear.
type trial struct {
	reckoner
	haul haul
}

func (t trial) holds(w wear) bool { return t.lifts(w, t.haul) }

// hauls returns all that can be tried: each gear with each load, in order.
func (c checked) hauls() []haul {
	var all []haul
	for gear := range c.Gears {
		for load := 1; load <= api.MaxTackleLoad; load++ {
			all = append(all, haul{gear: gear, load: load})
		}
	}
	return all
}

// ask returns of a book with a case what is to be tried, the gear -1 with no load if nothing leaves fewer cases, and how many are left then, at most.
func (c checked) ask() (best haul, left int) {
	hauls, wears, r := c.hauls(), slices.Collect(c.wears()), c.reckoner()
	var lefts []int
	for _, x := range hauls {
		lefts = append(lefts, terms.Worst(slices.Values(wears), trial{reckoner: r, haul: x}.holds))
	}
	i, left := terms.Ask(len(wears), lefts)
	left *= terms.Many(c.casesOf(wears[0])) // there are as many with whatever else parts bear
	if i < 0 {
		return haul{gear: -1}, left
	}
	return hauls[i], left
}

// only returns the book with no other tests than those of a list.
func (c checked) only(tests []int) checked {
	o := c
	o.Tests = terms.Pick(c.Tests, tests)
	return o
}

// canBe tells whether there is a case with the tests of a list alone.
func (c checked) canBe(tests []int) bool { return c.only(tests).hasCase() }
