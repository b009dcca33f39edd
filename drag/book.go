package drag

import (
	"slices"
	"strings"

	"lagan/api"
	"lagan/terms"
)

// Letters of the ground of a square.
const (
	sandLetter    = "s"
	mudLetter     = "m"
	unknownLetter = "?"
	letters       = sandLetter + mudLetter + unknownLetter
)

// book is a book that may have a hitch.
type book struct{ api.DragBook }

// checked is a book without a hitch.
type checked struct {
	book
	rocky   grid             // the squares with rocks
	unknown []api.DragSquare // the squares whose ground is not known, in order
}

// checks returns what is looked at for hitches, in their order.
func checks() []func(book) api.Hitch {
	return []func(book) api.Hitch{
		book.checkSize,
		book.countGround,
		book.checkGround,
		book.countUnknown,
		book.countRocks,
		book.checkRocks,
		book.countLines,
		book.checkLines,
		book.countLeads,
		book.checkLeads,
	}
}

func check(b api.DragBook) (checked, api.Hitch) {
	k := book{b}
	for _, look := range checks() {
		if h := look(k); h != api.Smooth {
			return checked{}, h
		}
	}
	return checked{book: k, rocky: gridOf(k.Rocks), unknown: k.unknownSquares()}, api.Smooth
}

// checkLine checks a book of whose line something is asked.
func checkLine(b api.DragBook, line int) (checked, api.Hitch) {
	c, h := check(b)
	if h != api.Smooth {
		return checked{}, h
	}
	return c, terms.HitchUnless(terms.Within(line, 0, len(c.Lines)-1), api.Missing)
}

// checkSquare checks a book of whose square something is asked.
func checkSquare(b api.DragBook, at api.DragSquare) (checked, api.Hitch) {
	c, h := check(b)
	if h != api.Smooth {
		return checked{}, h
	}
	return c, terms.HitchUnless(c.hasSquare(at), api.Missing)
}

// unknownSquares returns the squares whose ground is not known, in order.
func (b book) unknownSquares() []api.DragSquare { return b.list(b.ground(unknownLetter)) }

// ground returns the squares whose ground has a letter.
func (b book) ground(letter string) grid {
	var g grid
	for s := range b.squares() {
		g[s.Row][s.Lane] = b.Ground[s.Row][s.Lane:s.Lane+1] == letter
	}
	return g
}

func (b book) checkSize() api.Hitch {
	well := terms.Within(b.Rows, 1, api.MaxDragSide) && terms.Within(b.Lanes, 1, api.MaxDragSide)
	return terms.HitchUnless(well && terms.Within(b.Slack, 0, api.MaxDragSlack), api.Bounds)
}

func (b book) countGround() api.Hitch {
	return terms.HitchUnless(len(b.Ground) == b.Rows, api.Number)
}

func (b book) checkGround() api.Hitch {
	for _, row := range b.Ground {
		if len(row) != b.Lanes || strings.Trim(row, letters) != "" {
			return api.Shape
		}
	}
	return api.Smooth
}

func (b book) countUnknown() api.Hitch {
	return terms.HitchUnless(len(b.unknownSquares()) <= api.MaxDragUnknown, api.Number)
}

func (b book) countRocks() api.Hitch {
	return terms.HitchUnless(len(b.Rocks) <= api.MaxDragRocks, api.Number)
}

func (b book) checkRocks() api.Hitch {
	for i, s := range b.Rocks {
		if !b.hasSquare(s) {
			return api.Missing
		}
		if i > 0 && inOrder(b.Rocks[i-1], s) >= 0 {
			return api.Crossed
		}
	}
	return api.Smooth
}

func (b book) countLines() api.Hitch {
	return terms.HitchUnless(len(b.Lines) <= api.MaxDragLines, api.Number)
}

func (b book) checkLines() api.Hitch {
	for _, l := range b.Lines {
		if !terms.IsReach(l.Rows, 0, b.Rows-1) || !terms.IsReach(l.Lanes, 0, b.Lanes-1) {
			return api.Missing
		}
		if !terms.IsNarrow(l.Tide, -api.MaxDragTide, api.MaxDragTide, api.MaxDragWide) {
			return api.Bounds
		}
	}
	return api.Smooth
}

// isTide tells whether the tide can shift lines by the numbers of a reach.
func isTide(r api.Reach) bool {
	return terms.IsReach(r, -api.MaxDragTide, api.MaxDragTide)
}

// isShift tells whether the tide can shift lines by a number.
func isShift(n int) bool {
	return terms.Within(n, -api.MaxDragTide, api.MaxDragTide)
}

func (b book) countLeads() api.Hitch {
	return terms.HitchUnless(len(b.Leads) <= api.MaxDragLeads, api.Number)
}

func (b book) checkLeads() api.Hitch {
	for _, l := range b.Leads {
		if !b.hasSquare(l.At) {
			return api.Missing
		}
		if !terms.Within(int(l.Brought), int(api.DragSand), int(api.DragIron)) {
			return api.Bounds
		}
	}
	return api.Smooth
}

// checkCase returns the hitch of a case that is handed in.
func (c checked) checkCase(x api.DragCase) api.Hitch {
	if !c.hasSquare(x.Wreck) {
		return api.Missing
	}
	if len(x.Shifts) != len(c.Lines) {
		return api.Number
	}
	for _, shift := range x.Shifts {
		if !isShift(shift) {
			return api.Bounds
		}
	}
	if h := terms.CheckIndexes(x.Slack, len(c.Lines)); h != api.Smooth {
		return h
	}
	return terms.CheckIndexes(x.Mud, len(c.unknown))
}

// clone returns a book that shares no memory with this one.
func (b book) clone() book {
	b.Ground = slices.Clone(b.Ground)
	b.Rocks = slices.Clone(b.Rocks)
	b.Lines = slices.Clone(b.Lines)
	b.Leads = slices.Clone(b.Leads)
	return b
}

// told returns a book in which something is new, if it has no hitch and a case.
func (b book) told() (api.DragBook, api.Hitch) {
	return terms.News(b.DragBook, check, checked.hasCase)
}
