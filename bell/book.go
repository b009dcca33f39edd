package bell

import (
	"slices"

	"lagan/api"
	"lagan/terms"
)

// book is a book that may have a hitch.
type book struct{ api.BellBook }

// checked is a book without a hitch.
type checked struct{ book }

// checks returns what is looked at for hitches, in order.
func checks() []terms.Part[book] {
	return []terms.Part[book]{
		{Check: book.checkNumbers},
		{Check: book.checkReaches},
		{Count: book.countMen, Most: api.MaxBellMen, Each: book.checkMan},
		{Check: book.checkSent},
		{Count: book.countMarks, Most: api.MaxBellMarks, Each: book.checkMark},
	}
}

func check(b api.BellBook) (checked, api.Hitch) {
	k := book{b}
	if h := terms.CheckParts(k, checks()...); h != api.Smooth {
		return checked{}, h
	}
	return checked{book: k}, api.Smooth
}

// checkWithCase checks a book, and a case that is handed in with it.
func checkWithCase(b api.BellBook, x api.BellCase) (checked, api.Hitch) {
	c, h := check(b)
	if h != api.Smooth {
		return checked{}, h
	}
	return c, c.checkCase(x)
}

// checkWithPlan checks a book, and a plan that is handed in with it.
func checkWithPlan(b api.BellBook, plan []int) (checked, api.Hitch) {
	c, h := check(b)
	if h != api.Smooth {
		return checked{}, h
	}
	return c, c.checkPlan(plan)
}

func (b book) checkNumbers() api.Hitch {
	bell := terms.Within(b.Room, 1, api.MaxBellRoom) && terms.Within(b.Depth, 0, api.MaxBellDepth)
	work := terms.Within(b.Least, 0, api.MaxBellRoom) && terms.Within(b.Minutes, 1, api.MaxBellMinutes)
	air := isUse(b.Lamps) && isUse(b.Cask) && isUse(b.Pump) && terms.Within(b.Casks, 0, api.MaxBellCasks)
	return terms.HitchUnless(bell && work && air, api.Bounds)
}

func (b book) checkReaches() api.Hitch {
	leak := terms.IsNarrow(b.Leak, 0, api.MaxBellUse, api.MaxBellWide)
	return terms.HitchUnless(terms.IsReach(b.Pumped, 1, b.Minutes) && leak, api.Bounds)
}

func (b book) countMen() int { return len(b.Men) }

func (b book) checkMan(i int) api.Hitch {
	if h := terms.CheckName(b.Men, i, nameOf); h != api.Smooth {
		return h
	}
	return terms.HitchUnless(terms.IsNarrow(b.Men[i].Breath, 1, api.MaxBellUse, api.MaxBellWide), api.Bounds)
}

func nameOf(m api.BellMan) string { return m.Name }

func (b book) checkSent() api.Hitch { return b.checkPlan(b.Sent) }

func (b book) countMarks() int { return len(b.Marks) }

func (b book) checkMark(i int) api.Hitch {
	if !b.hasMinute(b.Marks[i].Minute) {
		return api.Missing
	}
	return terms.HitchUnless(terms.IsReach(b.Marks[i].Dry, 0, api.MaxBellRoom), api.Bounds)
}

func (b book) hasMinute(minute int) bool { return terms.Within(minute, 1, b.Minutes) }

func (b book) hasMan(i int) bool { return terms.Within(i, 0, len(b.Men)-1) }

// isUse tells whether something can use, or bring in, so many measures in a minute.
func isUse(measures int) bool { return terms.Within(measures, 0, api.MaxBellUse) }

// isLeak tells whether a bell can leak by the numbers of a reach.
func isLeak(r api.Reach) bool { return terms.IsReach(r, 0, api.MaxBellUse) }

// isBreath tells whether the breath of a man can be one of the numbers of a reach.
func isBreath(r api.Reach) bool { return terms.IsReach(r, 1, api.MaxBellUse) }

// checkPlan returns the hitch of a plan.
func (b book) checkPlan(plan []int) api.Hitch {
	if h := terms.CheckAscending(plan, 1, b.Minutes); h != api.Smooth {
		return h
	}
	return terms.HitchUnless(len(plan) <= b.Casks, api.Lacking)
}

// checkCase returns the hitch of a case that is handed in.
func (b book) checkCase(x api.BellCase) api.Hitch {
	if !isUse(x.Leak) {
		return api.Bounds
	}
	if len(x.Breaths) != len(b.Men) {
		return api.Number
	}
	return terms.CheckEach(x.Breaths, 0, api.MaxBellUse)
}

// clone returns a book that shares no memory with this one.
func (b book) clone() book {
	b.Men = slices.Clone(b.Men)
	b.Sent = slices.Clone(b.Sent)
	b.Marks = slices.Clone(b.Marks)
	return b
}

// told returns a book in which something is new, if it has no hitch and a case.
func (b book) told() (api.BellBook, api.Hitch) {
	return terms.News(b.BellBook, check, checked.hasCase)
}
