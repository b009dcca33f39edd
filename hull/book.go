package hull

import (
	"slices"

	"lagan/api"
	"lagan/terms"
)

// book is a book that may have a hitch.
type book struct{ api.HullBook }

// checked is a book without a hitch.
type checked struct {
	book
	past []outs // what was out, from nothing to all of Out
}

// checks returns what is looked at for hitches, in order.
func checks() []terms.Part[book] {
	return []terms.Part[book]{
		{Check: book.checkHull},
		{Count: book.countPieces, Least: 1, Most: api.MaxHullPieces, Each: book.checkPiece},
		{Check: book.checkOut},
		{Count: book.countHeels, Most: api.MaxHullHeels, Each: book.checkHeel},
	}
}

func check(b api.HullBook) (checked, api.Hitch) {
	k := book{b}
	if h := terms.CheckParts(k, checks()...); h != api.Smooth {
		return checked{}, h
	}
	past := append([]outs{{}}, outs{}.behind(b.Out)...)
	return checked{book: k, past: past}, api.Smooth
}

// checkWithCase checks a book, and a case that is handed in with it.
func checkWithCase(b api.HullBook, x api.HullCase) (checked, api.Hitch) {
	c, h := check(b)
	if h != api.Smooth {
		return checked{}, h
	}
	return c, c.checkCase(x)
}

// checkWithPieces checks a book, and pieces that are handed in with it.
func checkWithPieces(b api.HullBook, pieces []int) (checked, api.Hitch) {
	c, h := check(b)
	if h != api.Smooth {
		return checked{}, h
	}
	return c, c.checkPieces(pieces)
}

// checkWithPiece checks a book, and whether a piece is there that is asked about.
func checkWithPiece(b api.HullBook, piece int) (checked, api.Hitch) {
	c, h := check(b)
	if h != api.Smooth {
		return checked{}, h
	}
	return c, terms.HitchUnless(c.hasPiece(piece), api.Missing)
}

func (b book) checkHull() api.Hitch {
	ballast := terms.IsNarrow(b.Ballast, -api.MaxHullBallast, api.MaxHullBallast, api.MaxHullWide)
	return terms.HitchUnless(terms.Within(b.Limit, 0, api.MaxHullLimit) && ballast, api.Bounds)
}

func (b book) countPieces() int { return len(b.Pieces) }

func (b book) checkPiece(i int) api.Hitch {
	if h := terms.CheckName(b.Pieces, i, nameOf); h != api.Smooth {
		return h
	}
	p := b.Pieces[i]
	weight := terms.IsNarrow(p.Weight, 1, api.MaxHullWeight, api.MaxHullWide)
	if !weight || !terms.Within(p.Arm, -api.MaxHullArm, api.MaxHullArm) {
		return api.Bounds
	}
	return terms.CheckIndexes(p.On, i)
}

func nameOf(p api.HullPiece) string { return p.Name }

func (b book) checkOut() api.Hitch {
	_, h := b.liftAll(outs{}, b.Out)
	return h
}

func (b book) countHeels() int { return len(b.Heels) }

func (b book) checkHeel(i int) api.Hitch {
	x := b.Heels[i]
	if !terms.Within(x.After, 0, len(b.Out)) {
		return api.Missing
	}
	return terms.HitchUnless(terms.Within(int(x.Side), 0, len(sideWords())-1), api.Bounds)
}

func (b book) hasPiece(i int) bool { return terms.Within(i, 0, len(b.Pieces)-1) }

// isWeight tells whether a piece can weigh the numbers of a reach.
func isWeight(r api.Reach) bool { return terms.IsReach(r, 1, api.MaxHullWeight) }

// checkCase returns the hitch of a case that is handed in.
func (b book) checkCase(x api.HullCase) api.Hitch {
	if !terms.Within(x.Ballast, -api.MaxHullBallast, api.MaxHullBallast) {
		return api.Bounds
	}
	if len(x.Weights) != len(b.Pieces) {
		return api.Number
	}
	return terms.CheckEach(x.Weights, 0, api.MaxHullWeight)
}

// checkPieces returns the hitch of pieces that are handed in.
func (b book) checkPieces(pieces []int) api.Hitch { return terms.CheckIndexes(pieces, len(b.Pieces)) }

// clone returns a book that shares no memory with this one.
func (b book) clone() book {
	b.Pieces = slices.Clone(b.Pieces)
	for i, p := range b.Pieces {
		b.Pieces[i].On = slices.Clone(p.On)
	}
	b.Out = slices.Clone(b.Out)
	b.Heels = slices.Clone(b.Heels)
	return b
}

// told returns a book in which something is new, if it has no hitch and a case.
func (b book) told() (api.HullBook, api.Hitch) {
	return terms.News(b.HullBook, check, checked.hasCase)
}
