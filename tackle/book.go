package tackle

import (
	"slices"

	"lagan/api"
	"lagan/terms"
)

// book is a book that may have a hitch.
type book struct{ api.TackleBook }

// checked is a book without a hitch.
type checked struct{ book }

// checks returns what is looked at for hitches, in order.
func checks() []terms.Part[book] {
	return []terms.Part[book]{
		{Check: book.checkWinch},
		{Count: book.countParts, Least: 1, Most: api.MaxTackleParts, Each: book.checkPart},
		{Count: book.countGears, Least: 1, Most: api.MaxTackleGears, Each: book.checkGear},
		{Count: book.countPieces, Least: 1, Most: api.MaxTacklePieces, Each: book.checkPiece},
		{Count: book.countTests, Most: api.MaxTackleTests, Each: book.checkTest},
	}
}

func check(b api.TackleBook) (checked, api.Hitch) {
	k := book{b}
	if h := terms.CheckParts(k, checks()...); h != api.Smooth {
		return checked{}, h
	}
	return checked{book: k}, api.Smooth
}

// checkWithCase checks a book, and a case that is handed in with it.
func checkWithCase(b api.TackleBook, x api.TackleCase) (checked, api.Hitch) {
	c, h := check(b)
	if h != api.Smooth {
		return checked{}, h
	}
	return c, c.checkCase(x)
}

// checkWithPart checks a book, and whether a part is there that is asked about.
func checkWithPart(b api.TackleBook, part int) (checked, api.Hitch) {
	c, h := check(b)
	if h != api.Smooth {
		return checked{}, h
	}
	return c, terms.HitchUnless(c.hasPart(part), api.Missing)
}

// checkWithPiece checks a book, and whether a piece is there that is asked about.
func checkWithPiece(b api.TackleBook, piece int) (checked, api.Hitch) {
	c, h := check(b)
	if h != api.Smooth {
		return checked{}, h
	}
	return c, terms.HitchUnless(c.hasPiece(piece), api.Missing)
}

// checkWithHaul checks a book, and whether a gear is there, and a load is one, that are asked about.
func checkWithHaul(b api.TackleBook, x haul) (checked, api.Hitch) {
	c, h := check(b)
	if h != api.Smooth {
		return checked{}, h
	}
	return c, c.checkHaul(x)
}

func (b book) checkWinch() api.Hitch {
	return terms.HitchUnless(terms.Within(b.Winch, 0, api.MaxTackleLoad), api.Bounds)
}

func (b book) countParts() int { return len(b.Parts) }

func (b book) checkPart(i int) api.Hitch {
	if h := terms.CheckName(b.Parts, i, nameOfPart); h != api.Smooth {
		return h
	}
	p := b.Parts[i]
	bears := terms.IsNarrow(p.Bears, 0, api.MaxTackleLoad, api.MaxTackleWide)
	return terms.HitchUnless(terms.Within(p.Sheaves, 0, api.MaxTackleSheaves) && bears, api.Bounds)
}

func nameOfPart(p api.TacklePart) string { return p.Name }

func (b book) countGears() int { return len(b.Gears) }

func (b book) checkGear(i int) api.Hitch {
	gear := b.Gears[i]
	if len(gear) == 0 {
		return api.Number
	}
	for place, part := range gear {
		if !b.hasPart(part) {
			return api.Missing
		}
		if slices.Contains(gear[:place], part) {
			return api.Double
		}
	}
	return api.Smooth
}

func (b book) countPieces() int { return len(b.Pieces) }

func (b book) checkPiece(i int) api.Hitch {
	if h := terms.CheckName(b.Pieces, i, nameOfPiece); h != api.Smooth {
		return h
	}
	weight := terms.IsNarrow(b.Pieces[i].Weight, 1, api.MaxTackleLoad, api.MaxTackleWide)
	return terms.HitchUnless(weight, api.Bounds)
}

func nameOfPiece(p api.TacklePiece) string { return p.Name }

func (b book) countTests() int { return len(b.Tests) }

func (b book) checkTest(i int) api.Hitch { return b.checkHaul(haulOf(b.Tests[i])) }

func (b book) checkHaul(x haul) api.Hitch {
	if !b.hasGear(x.gear) {
		return api.Missing
	}
	return terms.HitchUnless(terms.Within(x.load, 1, api.MaxTackleLoad), api.Bounds)
}

func (b book) hasPart(i int) bool { return terms.Within(i, 0, len(b.Parts)-1) }

func (b book) hasGear(i int) bool { return terms.Within(i, 0, len(b.Gears)-1) }

func (b book) hasPiece(i int) bool { return terms.Within(i, 0, len(b.Pieces)-1) }

// canBear tells whether a part can bear the numbers of a reach.
func canBear(r api.Reach) bool { return terms.IsReach(r, 0, api.MaxTackleLoad) }

// isWeight tells whether a piece can weigh the numbers of a reach.
func isWeight(r api.Reach) bool { return terms.IsReach(r, 1, api.MaxTackleLoad) }

// checkCase returns the hitch of a case that is handed in.
func (b book) checkCase(x api.TackleCase) api.Hitch {
	if len(x.Bears) != len(b.Parts) || len(x.Weights) != len(b.Pieces) {
		return api.Number
	}
	if h := terms.CheckEach(x.Bears, 0, api.MaxTackleLoad); h != api.Smooth {
		return h
	}
	return terms.CheckEach(x.Weights, 1, api.MaxTackleLoad)
}

// clone returns a book that shares no memory with this one.
func (b book) clone() book {
	b.Parts = slices.Clone(b.Parts)
	b.Gears = slices.Clone(b.Gears)
	for i, gear := range b.Gears {
		b.Gears[i] = slices.Clone(gear)
	}
	b.Pieces = slices.Clone(b.Pieces)
	b.Tests = slices.Clone(b.Tests)
	return b
}

// told returns a book in which something is new, if it has no hitch and a case.
func (b book) told() (api.TackleBook, api.Hitch) {
	return terms.News(b.TackleBook, check, checked.hasCase)
}
