package bearing

import (
	"slices"

	"lagan/api"
	"lagan/terms"
)

// book is a book that may have a hitch.
type book struct{ api.BearingChart }

// checked is a book without a hitch.
type checked struct {
	book
	suspects []group // those who can be false together
}

// checks returns what is looked at for hitches, in their order.
func checks() []func(book) api.Hitch {
	return []func(book) api.Hitch{
		book.checkSize,
		book.countCompasses,
		book.checkCompasses,
		book.countWitnesses,
		book.checkWitnesses,
	}
}

func check(b api.BearingChart) (checked, api.Hitch) {
	k := book{b}
	for _, look := range checks() {
		if h := look(k); h != api.Smooth {
			return checked{}, h
		}
	}
	return checked{book: k, suspects: k.suspectGroups()}, api.Smooth
}

func (b book) checkSize() api.Hitch {
	well := terms.Within(b.Wide, 2, api.MaxBearingSide) && terms.Within(b.High, 2, api.MaxBearingSide)
	return terms.HitchUnless(well && terms.Within(b.False, 0, api.MaxBearingFalse), api.Bounds)
}

func (b book) countCompasses() api.Hitch {
	return terms.HitchUnless(terms.Within(len(b.Compasses), 1, api.MaxBearingCompasses), api.Number)
}

func (b book) checkCompasses() api.Hitch {
	for _, r := range b.Compasses {
		if !terms.IsNarrow(r, -api.MaxBearingOff, api.MaxBearingOff, api.MaxBearingWide) {
			return api.Bounds
		}
	}
	return api.Smooth
}

// isOff tells whether compasses can be off by the numbers of a reach.
func isOff(r api.Reach) bool {
	return terms.IsReach(r, -api.MaxBearingOff, api.MaxBearingOff)
}

func (b book) countWitnesses() api.Hitch {
	return terms.HitchUnless(len(b.Witnesses) <= api.MaxBearingWitnesses, api.Number)
}

func (b book) checkWitnesses() api.Hitch {
	for _, w := range b.Witnesses {
		if !isPlace(w.At) || !terms.Within(w.Bearing, 0, bearings-1) {
			return api.Bounds
		}
		if !b.hasCompass(w.Compass) {
			return api.Missing
		}
	}
	return api.Smooth
}

// isPlace tells whether a place is as near to the corner of a chart as places are.
func isPlace(s api.BearingSquare) bool {
	return terms.Within(s.East, -api.MaxBearingAt, api.MaxBearingAt) && terms.Within(s.North, -api.MaxBearingAt, api.MaxBearingAt)
}

func (b book) hasSquare(s api.BearingSquare) bool {
	return terms.Within(s.East, 0, b.Wide-1) && terms.Within(s.North, 0, b.High-1)
}

func (b book) hasCompass(i int) bool { return terms.Within(i, 0, len(b.Compasses)-1) }

func (b book) hasWitness(i int) bool { return terms.Within(i, 0, len(b.Witnesses)-1) }

// checkCase returns the hitch of a case that is handed in.
func (b book) checkCase(c api.BearingCase) api.Hitch {
	if !b.hasSquare(c.At) {
		return api.Missing
	}
	if len(c.Offs) != len(b.Compasses) {
		return api.Number
	}
	if h := terms.CheckEach(c.Offs, -api.MaxBearingOff, api.MaxBearingOff); h != api.Smooth {
		return h
	}
	return terms.CheckIndexes(c.False, len(b.Witnesses))
}

// clone returns a book that shares no memory with this one.
func (b book) clone() book {
	b.Compasses = slices.Clone(b.Compasses)
	b.Witnesses = slices.Clone(b.Witnesses)
	return b
}

// told returns a book in which something is new, if it has no hitch and a case.
func (b book) told() (api.BearingChart, api.Hitch) {
	return terms.News(b.BearingChart, check, checked.hasCase)
}
