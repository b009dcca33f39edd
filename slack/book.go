package slack

import (
	"slices"

	"lagan/api"
	"lagan/terms"
)

// book is a book that may have a hitch.
type book struct{ api.SlackBook }

// checked is a book without a hitch.
type checked struct{ book }

// checks returns what is looked at for hitches, in order.
func checks() []terms.Part[book] {
	return []terms.Part[book]{
		{Check: book.checkUnknowns},
		{Count: book.countTurns, Least: 1, Most: api.MaxSlackTurns, Each: book.checkTurn},
		{Count: book.countWatches, Most: api.MaxSlackWatches, Each: book.checkWatch},
	}
}

func check(b api.SlackBook) (checked, api.Hitch) {
	k := book{b}
	if h := terms.CheckParts(k, checks()...); h != api.Smooth {
		return checked{}, h
	}
	return checked{book: k}, api.Smooth
}

// checkWithCase checks a book, and a case that is handed in with it.
func checkWithCase(b api.SlackBook, x api.SlackCase) (checked, api.Hitch) {
	c, h := check(b)
	if h != api.Smooth {
		return checked{}, h
	}
	return c, c.checkCase(x)
}

// checkWithWorks checks a book, and works that are handed in with it.
func checkWithWorks(b api.SlackBook, works []int) (checked, api.Hitch) {
	c, h := check(b)
	if h != api.Smooth {
		return checked{}, h
	}
	return c, checkWorks(works)
}

// checkUnknowns checks the numbers that all of a book shares.
func (b book) checkUnknowns() api.Hitch {
	if h := checkReach(b.Shift, -api.MaxSlackShift, api.MaxSlackShift); h != api.Smooth {
		return h
	}
	return checkReach(b.Clock, -api.MaxSlackClock, api.MaxSlackClock)
}

func (b book) countTurns() int { return len(b.Turns) }

func (b book) checkTurn(i int) api.Hitch {
	t := b.Turns[i]
	if !terms.Within(t.At, api.MaxSlackFirst, api.MaxSlackLast) {
		return api.Bounds
	}
	if i > 0 && t.At-b.Turns[i-1].At < api.MaxSlackFirst {
		return api.Crossed
	}
	return checkReach(t.Half, 0, api.MaxSlackHalf)
}

func (b book) countWatches() int { return len(b.Watches) }

func (b book) checkWatch(i int) api.Hitch {
	return terms.HitchUnless(isTick(b.Watches[i].At), api.Bounds)
}

// checkReach returns the hitch of what is to be a reach from least to most with no more numbers than something unknown has.
func checkReach(r api.Reach, least, most int) api.Hitch {
	return terms.HitchUnless(terms.IsNarrow(r, least, most, api.MaxSlackWide), api.Bounds)
}

func isTick(n int) bool { return terms.Within(n, 0, api.MaxSlackDay) }

// isWind tells whether wind can shift turns by the numbers of a reach.
func isWind(r api.Reach) bool { return terms.IsReach(r, -api.MaxSlackShift, api.MaxSlackShift) }

// checkCase returns the hitch of a case that is handed in.
func (b book) checkCase(x api.SlackCase) api.Hitch {
	if !terms.Within(x.Shift, -api.MaxSlackShift, api.MaxSlackShift) || !terms.Within(x.Clock, -api.MaxSlackClock, api.MaxSlackClock) {
		return api.Bounds
	}
	if len(x.Halfs) != len(b.Turns) {
		return api.Number
	}
	return terms.CheckEach(x.Halfs, 0, api.MaxSlackHalf)
}

// checkWorks returns the hitch of works that are handed in.
func checkWorks(works []int) api.Hitch {
	if len(works) > api.MaxSlackWorks {
		return api.Number
	}
	return terms.CheckEach(works, 1, api.MaxSlackWork)
}

// clone returns a book that shares no memory with this one.
func (b book) clone() book {
	b.Turns = slices.Clone(b.Turns)
	b.Watches = slices.Clone(b.Watches)
	return b
}

// told returns a book in which something is new, if it has no hitch and a case.
func (b book) told() (api.SlackBook, api.Hitch) {
	return terms.News(b.SlackBook, check, checked.hasCase)
}
