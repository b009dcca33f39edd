package finds

import (
	"slices"

	"lagan/api"
	"lagan/terms"
)

// book is a book that may have a hitch.
type book struct{ api.FindsBook }

// checked is a book without a hitch.
type checked struct{ book }

// checks returns what is looked at for hitches, in order.
func checks() []terms.Part[book] {
	return []terms.Part[book]{
		{Check: book.checkStrays},
		{Count: book.countLines, Least: 1, Most: api.MaxFindsLines, Each: book.checkLine},
		{Count: book.countFinds, Most: api.MaxFinds, Each: book.checkFind},
		{Count: book.countNotes, Most: api.MaxFindsNotes, Each: book.checkNote},
	}
}

func check(b api.FindsBook) (checked, api.Hitch) {
	k := book{b}
	if h := terms.CheckParts(k, checks()...); h != api.Smooth {
		return checked{}, h
	}
	return checked{book: k}, api.Smooth
}

// checkWithFind checks a book, and whether a find is there that is asked about.
func checkWithFind(b api.FindsBook, find int) (checked, api.Hitch) {
	c, h := check(b)
	if h != api.Smooth {
		return checked{}, h
	}
	return c, terms.HitchUnless(c.hasFind(find), api.Missing)
}

func (b book) checkStrays() api.Hitch {
	return terms.HitchUnless(terms.Within(b.Strays, 0, api.MaxFindsStrays), api.Bounds)
}

func (b book) countLines() int { return len(b.Lines) }

func (b book) checkLine(i int) api.Hitch {
	l := b.Lines[i]
	if !isShip(l.Ship) {
		return api.Bounds
	}
	if !isMark(l.Mark) {
		return api.Shape
	}
	isSame := func(before api.FindsLine) bool { return before.Ship == l.Ship && before.Mark == l.Mark }
	if slices.ContainsFunc(b.Lines[:i], isSame) {
		return api.Double
	}
	return terms.HitchUnless(terms.Within(l.Count, 1, api.MaxFindsCount), api.Bounds)
}

func (b book) countFinds() int { return len(b.Finds) }

func (b book) checkFind(i int) api.Hitch {
	return terms.HitchUnless(isWornMark(b.Finds[i]), api.Shape)
}

func (b book) countNotes() int { return len(b.Notes) }

func (b book) checkNote(i int) api.Hitch {
	n := b.Notes[i]
	if !b.hasFind(n.A) || !b.hasFind(n.B) {
		return api.Missing
	}
	return terms.HitchUnless(n.B > n.A, api.Crossed)
}

func isShip(n int) bool { return terms.Within(n, 0, api.MaxFindsShips-1) }

func (b book) hasLine(i int) bool { return terms.Within(i, 0, len(b.Lines)-1) }

func (b book) hasFind(i int) bool { return terms.Within(i, 0, len(b.Finds)-1) }

// checkCase returns the hitch of a case that is handed in.
func (b book) checkCase(lines []int) api.Hitch {
	if len(lines) != len(b.Finds) {
		return api.Number
	}
	isOut := func(line int) bool { return line != stray && !b.hasLine(line) }
	return terms.HitchUnless(!slices.ContainsFunc(lines, isOut), api.Missing)
}

// clone returns a book that shares no memory with this one.
func (b book) clone() book {
	b.Lines = slices.Clone(b.Lines)
	b.Finds = slices.Clone(b.Finds)
	b.Notes = slices.Clone(b.Notes)
	return b
}

// told returns a book in which something is new, if it has no hitch and a case.
func (b book) told() (api.FindsBook, api.Hitch) {
	return terms.News(b.FindsBook, check, checked.hasCase)
}
