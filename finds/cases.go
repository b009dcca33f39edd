package finds

import (
	"iter"

	"lagan/api"
	"lagan/terms"
)

const (
	stray   = -1 // the line, and the ship, of a find that is of none
	absent  = -2 // those of a find that the book does not have
	ownShip = 0
)

// ofFinds is of which line each find is, or of which ship.
type ofFinds [api.MaxFinds]int

// ofNone returns what there is of each find if the book has none.
func ofNone() ofFinds {
	var o ofFinds
	for find := range o {
		o[find] = absent
	}
	return o
}

// with returns the same with what one more find is of.
func (o ofFinds) with(find, what int) ofFinds {
	o[find] = what
	return o
}

// many returns how many finds are of a line, or of a ship.
func (o ofFinds) many(what int) int {
	many := 0
	for _, w := range o {
		if w == what {
			many++
		}
	}
	return many
}

// findsCase is a case that can be compared.
type findsCase struct{ lines, ships ofFinds }

// newCase returns a case by the lines of the finds, whether it is one of the book or not.
func (b book) newCase(lines ofFinds) findsCase {
	x := findsCase{lines: lines, ships: lines}
	for find, line := range lines {
		if b.hasLine(line) {
			x.ships[find] = b.Lines[line].Ship
		}
	}
	return x
}

// handedIn makes lines that have no hitch a case that can be compared.
func (b book) handedIn(list []int) findsCase {
	lines := ofNone()
	copy(lines[:], list)
	return b.newCase(lines)
}

// takes tells whether a line takes one more find, or it can be one more stray, as others are of these lines.
func (b book) takes(lines ofFinds, find, line int) bool {
	if line == stray {
		return lines.many(stray) < b.Strays
	}
	return b.fits(find, line) && lines.many(line) < b.Lines[line].Count
}

// sortings yields all lines that the finds can be of together, whether notes are right or not.
func (c checked) sortings() iter.Seq[ofFinds] {
	return func(yield func(ofFinds) bool) {
		var fill func(lines ofFinds, find int) bool
		fill = func(lines ofFinds, find int) bool {
			if find == len(c.Finds) {
				return yield(lines)
			}
			for line := stray; line < len(c.Lines); line++ {
				if c.takes(lines, find, line) && !fill(lines.with(find, line), find+1) {
					return false
				}
			}
			return true
		}
		fill(ofNone(), 0)
	}
}

// agrees tells whether all notes are right; a stray is not of the same ship as any other find.
func (b book) agrees(x findsCase) bool {
	for _, n := range b.Notes {
		ship := x.ships[n.A]
		if isSame := ship != stray && ship == x.ships[n.B]; isSame != n.Same {
			return false
		}
	}
	return true
}

// casesOf yields the case in which finds are of some lines, if all notes are right in it.
func (c checked) casesOf(lines ofFinds) iter.Seq[findsCase] {
	return func(yield func(findsCase) bool) {
		if x := c.newCase(lines); c.agrees(x) {
			yield(x)
		}
	}
}

// cases yields each case of the book.
func (c checked) cases() iter.Seq[findsCase] {
	return func(yield func(findsCase) bool) {
		for lines := range c.sortings() {
			for x := range c.casesOf(lines) {
				if !yield(x) {
					return
				}
			}
		}
	}
}

// hasCase tells whether there is a case.
func (c checked) hasCase() bool { return terms.HasCase(c.cases()) }

func (c checked) isCase(x findsCase) bool {
	return terms.IsOneOf(c.sortings(), x.lines) && terms.IsOneOf(c.casesOf(x.lines), x)
}

// only returns the book with no other notes than those of a list.
func (c checked) only(notes []int) checked {
	o := c
	o.Notes = terms.Pick(c.Notes, notes)
	return o
}

// canBe tells whether there is a case with the notes of a list alone.
func (c checked) canBe(notes []int) bool { return c.only(notes).hasCase() }

// fewest returns how many finds are strays at least, however many are allowed, and whether there is a case then.
func (c checked) fewest() (strays int, found bool) {
	o := c
	o.Strays = len(c.Finds)
	r, h := o.span(entry(stray).many)
	return r.Least, h == api.Smooth
}
