package season

import (
	"slices"

	"lagan/api"
	"lagan/terms"
)

// book is a book that may have a hitch.
type book struct{ api.SeasonBook }

// checked is a book without a hitch.
type checked struct{ book }

func check(b api.SeasonBook) (checked, api.Hitch) {
	k := book{b}
	for _, p := range k.parts() {
		if h := p.check(); h != api.Smooth {
			return checked{}, h
		}
	}
	return checked{book: k}, api.Smooth
}

// checkWithJournal checks a book, and how many entries a journal has.
func checkWithJournal(b api.SeasonBook, l []api.SeasonEntry) (checked, api.Hitch) {
	c, h := check(b)
	if h != api.Smooth {
		return checked{}, h
	}
	return c, terms.HitchUnless(len(l) <= api.MaxSeasonEntries, api.Number)
}

// award returns that of the book.
func (b book) award() award { return award{b.Award} }

// clone returns a book that shares no memory with this one.
func (b book) clone() book {
	b.Chart.Compasses, b.Chart.Witnesses = slices.Clone(b.Chart.Compasses), slices.Clone(b.Chart.Witnesses)
	b.Drag.Ground, b.Drag.Rocks = slices.Clone(b.Drag.Ground), slices.Clone(b.Drag.Rocks)
	b.Drag.Lines, b.Drag.Leads = slices.Clone(b.Drag.Lines), slices.Clone(b.Drag.Leads)
	b.Slack.Turns, b.Slack.Watches = slices.Clone(b.Slack.Turns), slices.Clone(b.Slack.Watches)
	b.Bell.Men, b.Bell.Sent, b.Bell.Marks = slices.Clone(b.Bell.Men), slices.Clone(b.Bell.Sent), slices.Clone(b.Bell.Marks)
	b.Stint.Rows, b.Stint.Places, b.Stint.Men = slices.Clone(b.Stint.Rows), slices.Clone(b.Stint.Places), slices.Clone(b.Stint.Men)
	b.Stint.Dives, b.Stint.Soundings = slices.Clone(b.Stint.Dives), slices.Clone(b.Stint.Soundings)
	b.Hull.Pieces = slices.Clone(b.Hull.Pieces)
	for i, p := range b.Hull.Pieces {
		b.Hull.Pieces[i].On = slices.Clone(p.On)
	}
	b.Hull.Out, b.Hull.Heels = slices.Clone(b.Hull.Out), slices.Clone(b.Hull.Heels)
	b.Tackle.Gears = slices.Clone(b.Tackle.Gears)
	for i, g := range b.Tackle.Gears {
		b.Tackle.Gears[i] = slices.Clone(g)
	}
	b.Tackle.Parts, b.Tackle.Pieces, b.Tackle.Tests = slices.Clone(b.Tackle.Parts), slices.Clone(b.Tackle.Pieces), slices.Clone(b.Tackle.Tests)
	b.Mooring.Anchors, b.Mooring.Grounds = slices.Clone(b.Mooring.Anchors), slices.Clone(b.Mooring.Grounds)
	b.Mooring.Winds, b.Mooring.Nights = slices.Clone(b.Mooring.Winds), slices.Clone(b.Mooring.Nights)
	b.Finds.Lines, b.Finds.Finds, b.Finds.Notes = slices.Clone(b.Finds.Lines), slices.Clone(b.Finds.Finds), slices.Clone(b.Finds.Notes)
	b.Award.Men = slices.Clone(b.Award.Men)
	return b
}
