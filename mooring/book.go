package mooring

import (
	"slices"

	"lagan/api"
	"lagan/terms"
)

// book is a book that may have a hitch.
type book struct{ api.MooringBook }

// checked is a book without a hitch.
type checked struct{ book }

// checks returns what is looked at for hitches, in order.
func checks() []terms.Part[book] {
	return []terms.Part[book]{
		{Check: book.checkDepth},
		{Count: book.countAnchors, Least: 1, Most: api.MaxMooringAnchors, Each: book.checkAnchor},
		{Count: book.countGrounds, Least: kinds, Most: kinds, Each: book.checkGround},
		{Count: book.countWinds, Least: 1, Most: api.MaxMooringWinds, Each: book.checkWind},
		{Count: book.countNights, Most: api.MaxMooringNights, Each: book.checkNight},
	}
}

func check(b api.MooringBook) (checked, api.Hitch) {
	k := book{b}
	if h := terms.CheckParts(k, checks()...); h != api.Smooth {
		return checked{}, h
	}
	return checked{book: k}, api.Smooth
}

// checkWithCase checks a book, and a case that is handed in with it.
func checkWithCase(b api.MooringBook, x api.MooringCase) (checked, api.Hitch) {
	c, h := check(b)
	if h != api.Smooth {
		return checked{}, h
	}
	return c, c.checkCase(x)
}

// checkWithWind checks a book, and whether a wind is there that is asked about.
func checkWithWind(b api.MooringBook, wind int) (checked, api.Hitch) {
	c, h := check(b)
	if h != api.Smooth {
		return checked{}, h
	}
	return c, terms.HitchUnless(c.strengths().has(wind), api.Missing)
}

func (b book) checkDepth() api.Hitch {
	return terms.HitchUnless(terms.Within(b.Depth, 1, api.MaxMooringDepth), api.Bounds)
}

func (b book) countAnchors() int { return len(b.Anchors) }

func (b book) checkAnchor(i int) api.Hitch {
	a := b.Anchors[i]
	if h := checkPlace(a.At); h != api.Smooth {
		return h
	}
	if !terms.Within(int(a.Ground), 0, kinds-1) {
		return api.Missing
	}
	return terms.CheckEach([]int{a.Strength, a.Length}, 1, api.MaxMooringCable)
}

// checkPlace returns the hitch of a place at which an anchor is to lie.
func checkPlace(at api.MooringPlace) api.Hitch {
	if h := terms.CheckEach([]int{at.East, at.North}, -api.MaxMooringFar, api.MaxMooringFar); h != api.Smooth {
		return h
	}
	lighter := api.MooringPlace{}
	return terms.HitchUnless(at != lighter, api.Crossed)
}

func (b book) countGrounds() int { return len(b.Grounds) }

func (b book) checkGround(i int) api.Hitch { return b.grounds().checkReach(api.MooringKind(i)) }

func (b book) countWinds() int { return len(b.Winds) }

func (b book) checkWind(i int) api.Hitch {
	if !hasSide(b.Winds[i].Side) {
		return api.Missing
	}
	return b.strengths().checkReach(i)
}

func (b book) countNights() int { return len(b.Nights) }

func (b book) checkNight(i int) api.Hitch {
	return terms.HitchUnless(b.strengths().has(b.Nights[i].Wind), api.Missing)
}

func (b book) hasAnchor(i int) bool { return terms.Within(i, 0, len(b.Anchors)-1) }

// checkCase returns the hitch of a case that is handed in.
func (b book) checkCase(x api.MooringCase) api.Hitch {
	if len(x.Grounds) != len(b.Grounds) || len(x.Strengths) != len(b.Winds) {
		return api.Number
	}
	if h := b.grounds().checkNumbers(x.Grounds); h != api.Smooth {
		return h
	}
	return b.strengths().checkNumbers(x.Strengths)
}

// clone returns a book that shares no memory with this one.
func (b book) clone() book {
	b.Anchors = slices.Clone(b.Anchors)
	b.Grounds = slices.Clone(b.Grounds)
	b.Winds = slices.Clone(b.Winds)
	b.Nights = slices.Clone(b.Nights)
	return b
}

// told returns a book in which something is new, if it has no hitch and a case.
func (b book) told() (api.MooringBook, api.Hitch) {
	return terms.News(b.MooringBook, check, checked.hasCase)
}
