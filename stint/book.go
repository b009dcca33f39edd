package stint

import (
	"slices"

	"lagan/api"
	"lagan/terms"
)

// book is a book that may have a hitch.
type book struct{ api.StintBook }

// checked is a book without a hitch.
type checked struct{ book }

// checks returns what is looked at for hitches, in order.
func checks() []terms.Part[book] {
	return []terms.Part[book]{
		{Check: book.checkRest},
		{Count: book.countRows, Least: 1, Most: api.MaxStintRows, Each: book.checkRow},
		{Count: book.countPlaces, Least: 1, Most: api.MaxStintPlaces, Each: book.checkPlace},
		{Count: book.countMen, Least: 1, Most: api.MaxStintMen, Each: book.checkMan},
		{Count: book.countDives, Least: 1, Most: api.MaxStintDives, Each: book.checkDive},
		{Count: book.countSoundings, Most: api.MaxStintSoundings, Each: book.checkSounding},
	}
}

func check(b api.StintBook) (checked, api.Hitch) {
	k := book{b}
	if h := terms.CheckParts(k, checks()...); h != api.Smooth {
		return checked{}, h
	}
	return checked{book: k}, api.Smooth
}

func (b book) checkRest() api.Hitch {
	return terms.HitchUnless(terms.Within(b.Rest, 0, api.MaxStintRest), api.Bounds)
}

func (b book) countRows() int { return len(b.Rows) }

func (b book) checkRow(i int) api.Hitch {
	r := b.Rows[i]
	if !isDepth(r.Depth) || !isStay(r.Stay) {
		return api.Bounds
	}
	if i == 0 {
		return api.Smooth
	}
	before := b.Rows[i-1]
	return terms.HitchUnless(r.Depth > before.Depth && r.Stay <= before.Stay, api.Crossed)
}

func (b book) countPlaces() int { return len(b.Places) }

func (b book) checkPlace(i int) api.Hitch {
	return terms.HitchUnless(terms.IsNarrow(b.Places[i], 1, api.MaxStintDepth, api.MaxStintWide), api.Bounds)
}

func (b book) countMen() int { return len(b.Men) }

func (b book) checkMan(i int) api.Hitch {
	if h := terms.CheckName(b.Men, i, nameOf); h != api.Smooth {
		return h
	}
	return terms.HitchUnless(isDepth(b.Men[i].Deepest), api.Bounds)
}

func nameOf(m api.StintMan) string { return m.Name }

func (b book) countDives() int { return len(b.Dives) }

func (b book) checkDive(i int) api.Hitch {
	d := b.Dives[i]
	if !b.hasPlace(d.Place) {
		return api.Missing
	}
	well := terms.Within(d.Begin, 0, api.MaxStintDay) && isStay(d.Ticks) && terms.Within(d.Men, 1, api.MaxStintNeed)
	return terms.HitchUnless(well, api.Bounds)
}

func (b book) countSoundings() int { return len(b.Soundings) }

func (b book) checkSounding(i int) api.Hitch {
	s := b.Soundings[i]
	if !b.hasPlace(s.Place) {
		return api.Missing
	}
	return terms.HitchUnless(terms.Within(s.Line, 0, api.MaxStintDepth), api.Bounds)
}

func (b book) hasPlace(i int) bool { return terms.Within(i, 0, len(b.Places)-1) }

func (b book) hasMan(i int) bool { return terms.Within(i, 0, len(b.Men)-1) }

func (b book) hasDive(i int) bool { return terms.Within(i, 0, len(b.Dives)-1) }

func isDepth(n int) bool { return terms.Within(n, 1, api.MaxStintDepth) }

func isStay(ticks int) bool { return terms.Within(ticks, 1, api.MaxStintStay) }

// checkDepths returns the hitch of depths that are handed in.
func (b book) checkDepths(depths []int) api.Hitch {
	if len(depths) != len(b.Places) {
		return api.Number
	}
	return terms.CheckEach(depths, 1, api.MaxStintDepth)
}

// checkRota returns the hitch of a rota that is handed in.
func (b book) checkRota(lists [][]int) api.Hitch {
	if len(lists) != len(b.Dives) {
		return api.Number
	}
	for i, men := range lists {
		if len(men) != b.Dives[i].Men {
			return api.Number
		}
		if h := terms.CheckIndexes(men, len(b.Men)); h != api.Smooth {
			return h
		}
	}
	return api.Smooth
}

// clone returns a book that shares no memory with this one.
func (b book) clone() book {
	b.Rows = slices.Clone(b.Rows)
	b.Places = slices.Clone(b.Places)
	b.Men = slices.Clone(b.Men)
	b.Dives = slices.Clone(b.Dives)
	b.Soundings = slices.Clone(b.Soundings)
	return b
}

// told returns a book in which something is new, if it has no hitch and a case.
func (b book) told() (api.StintBook, api.Hitch) {
	return terms.News(b.StintBook, check, checked.hasCase)
}
