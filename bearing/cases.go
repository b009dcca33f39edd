package bearing

import (
	"cmp"
	"iter"

	"lagan/api"
	"lagan/terms"
)

// offs is by how much each compass is off; it is 0 for those that the book does not have.
type offs [api.MaxBearingCompasses]int

// setting is what a case says of all but the witnesses.
type setting struct {
	at   api.BearingSquare
	offs offs
}

// wreckCase is a case that can be compared.
type wreckCase struct {
	setting
	liars group
}

// newCase makes a case that has no hitch one that can be compared.
func newCase(c api.BearingCase) wreckCase {
	x := wreckCase{setting: setting{at: c.At}}
	copy(x.offs[:], c.Offs)
	for _, w := range c.False {
		x.liars = x.liars.with(w)
	}
	return x
}

// settings yields each square with all by which the compasses can be off.
func (c checked) settings() iter.Seq[setting] {
	return func(yield func(setting) bool) {
		var s setting
		var fill func(compass int) bool
		fill = func(compass int) bool {
			if compass == len(c.Compasses) {
				return yield(s)
			}
			for off := c.Compasses[compass].Least; off <= c.Compasses[compass].Most; off++ {
				s.offs[compass] = off
				if !fill(compass + 1) {
					return false
				}
			}
			return true
		}
	squares:
		for row := range c.High {
			for column := range c.Wide {
				s.at = api.BearingSquare{East: column, North: row}
				if !fill(0) {
					break squares
				}
			}
		}
	}
}

// wrong returns the witnesses who took another bearing than their compass shows.
func (c checked) wrong(s setting) group {
	var g group
	for i, w := range c.Witnesses {
		if w.At != s.at && w.Bearing != shown(trueBearing(w.At, s.at), s.offs[w.Compass]) {
			g = g.with(i)
		}
	}
	return g
}

// casesOf yields the cases that have a setting.
func (c checked) casesOf(s setting) iter.Seq[wreckCase] {
	return func(yield func(wreckCase) bool) {
		wrong := c.wrong(s)
		for _, g := range c.suspects {
			if wrong.without(g) == 0 && !yield(wreckCase{setting: s, liars: g}) {
				return
			}
		}
	}
}

// cases yields each case of the book.
func (c checked) cases() iter.Seq[wreckCase] {
	return func(yield func(wreckCase) bool) {
		for s := range c.settings() {
			for x := range c.casesOf(s) {
				if !yield(x) {
					return
				}
			}
		}
	}
}

func (c checked) isCase(want wreckCase) bool {
	if !c.canBeOff(want.offs) {
		return false
	}
	for x := range c.casesOf(want.setting) {
		if x == want {
			return true
		}
	}
	return false
}

// canBeOff tells whether the compasses can be off so, wherever the wreck is.
func (c checked) canBeOff(o offs) bool {
	for s := range c.settings() {
		if s.offs == o {
			return true
		}
	}
	return false
}

// place asks of a case whether the wreck is there.
type place api.BearingSquare

func (p place) hasWreck(x wreckCase) bool { return x.at == api.BearingSquare(p) }

// suspect asks of a case whether the witness with this index is false.
type suspect int

func (s suspect) isFalse(x wreckCase) bool { return x.liars.has(int(s)) }

// where returns the squares at which the wreck can be, in order.
func (c checked) where() []api.BearingSquare {
	return terms.Found(c.cases(), func(x wreckCase) api.BearingSquare { return x.at }, inOrder)
}

func inOrder(a, b api.BearingSquare) int {
	return cmp.Or(cmp.Compare(a.North, b.North), cmp.Compare(a.East, b.East))
}

// box returns the reaches of the squares, of which there is at least one.
func box(squares []api.BearingSquare) (eastward, northward api.Reach) {
	first := squares[0]
	eastward = api.Reach{Least: first.East, Most: first.East}
	northward = api.Reach{Least: first.North, Most: first.North}
	for _, s := range squares {
		eastward = widened(eastward, s.East)
		northward = widened(northward, s.North)
	}
	return eastward, northward
}

// widened returns the reach with a number in it.
func widened(r api.Reach, n int) api.Reach {
	return api.Reach{Least: min(r.Least, n), Most: max(r.Most, n)}
}

// offsOf returns by how much a compass is off in cases, ascending.
func (c checked) offsOf(compass int) []int {
	return terms.Found(c.cases(), func(x wreckCase) int { return x.offs[compass] }, cmp.Compare[int])
}
