package bearing

import (
	"cmp"
	"iter"
	"slices"

	"lagan/api"
	"lagan/terms"
)

// offs is by how much each compass is off; it is 0 for those that the book does not have.
type offs [api.MaxBearingCompasses]int

// setting is what a case says of all but the witnesses.
type setting struct {
	at   api.BearingSquare
	offs offs
}

// wreckCase is a case that can be compared.
type wreckCase struct {
	setting
	liars group
}

// newCase makes a case that has no hitch one that can be compared.
func newCase(c api.BearingCase) wreckCase {
	x := wreckCase{setting: setting{at: c.At, offs: offsOf(c.Offs)}}
	for _, w := range c.False {
		x.liars = x.liars.with(w)
	}
	return x
}

// offsOf returns those of a list for each compass.
func offsOf(list []int) offs {
	var o offs
	copy(o[:], list)
	return o
}

// allOffs returns all by which the compasses can be off together, wherever the wreck is.
func (c checked) allOffs() []offs {
	var all []offs
	for list := range terms.Numberings(c.Compasses) {
		all = append(all, offsOf(list))
	}
	return all
}

// settings yields each square with all by which the compasses can be off.
func (c checked) settings() iter.Seq[setting] {
	return func(yield func(setting) bool) {
		all := c.allOffs()
	squares:
		for row := range c.High {
			for column := range c.Wide {
				at := api.BearingSquare{East: column, North: row}
				for _, o := range all {
					if !yield(setting{at: at, offs: o}) {
						break squares
					}
				}
			}
		}
	}
}

// wrong returns the witnesses who took another bearing than their compass shows.
func (c checked) wrong(s setting) group {
	var g group
	for i, w := range c.Witnesses {
		if w.At != s.at && w.Bearing != shown(trueBearing(w.At, s.at), s.offs[w.Compass]) {
			g = g.with(i)
		}
	}
	return g
}

// casesOf yields the cases that have a setting.
func (c checked) casesOf(s setting) iter.Seq[wreckCase] {
	return func(yield func(wreckCase) bool) {
		wrong := c.wrong(s)
		for _, g := range c.suspects {
			if wrong.without(g) == 0 && !yield(wreckCase{setting: s, liars: g}) {
				return
			}
		}
	}
}

// cases yields each case of the book.
func (c checked) cases() iter.Seq[wreckCase] {
	return func(yield func(wreckCase) bool) {
		for s := range c.settings() {
			for x := range c.casesOf(s) {
				if !yield(x) {
					return
				}
			}
		}
	}
}

// hasCase tells whether there is a case.
func (c checked) hasCase() bool { return terms.HasCase(c.cases()) }

func (c checked) isCase(x wreckCase) bool {
	return slices.Contains(c.allOffs(), x.offs) && terms.IsOneOf(c.casesOf(x.setting), x)
}

// place asks of a case whether the wreck is there.
type place api.BearingSquare

func (p place) hasWreck(x wreckCase) bool { return x.at == api.BearingSquare(p) }

// suspect asks of a case whether the witness with this index is false.
type suspect int

func (s suspect) isFalse(x wreckCase) bool { return x.liars.has(int(s)) }

// where returns the squares at which the wreck can be, in order.
func (c checked) where() []api.BearingSquare {
	return terms.Found(c.cases(), func(x wreckCase) api.BearingSquare { return x.at }, inOrder)
}

func inOrder(a, b api.BearingSquare) int {
	return cmp.Or(cmp.Compare(a.North, b.North), cmp.Compare(a.East, b.East))
}

// box returns the reaches of the squares, of which there is at least one.
func box(squares []api.BearingSquare) (eastward, northward api.Reach) {
	first := squares[0]
	eastward = api.Reach{Least: first.East, Most: first.East}
	northward = api.Reach{Least: first.North, Most: first.North}
	for _, s := range squares {
		eastward = widened(eastward, s.East)
		northward = widened(northward, s.North)
	}
	return eastward, northward
}

// widened returns the reach with a number in it.
func widened(r api.Reach, n int) api.Reach {
	return api.Reach{Least: min(r.Least, n), Most: max(r.Most, n)}
}

// needle asks of a case about the compass with this index.
type needle int

func (n needle) off(x wreckCase) int { return x.offs[n] }
