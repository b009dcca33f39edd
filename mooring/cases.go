package mooring

import (
	"iter"
	"slices"

	"lagan/api"
	"lagan/terms"
)

// mooringCase is a case that can be compared; strengths of winds that the book does not have are 0.
type mooringCase struct {
	grounds   [kinds]int
	strengths [api.MaxMooringWinds]int
}

// newCase returns a case by what the kinds of ground hold, and how strong the winds are.
func newCase(grounds, strengths []int) mooringCase {
	var x mooringCase
	copy(x.grounds[:], grounds)
	copy(x.strengths[:], strengths)
	return x
}

// handedIn makes a case that has no hitch one that can be compared.
func handedIn(x api.MooringCase) mooringCase { return newCase(x.Grounds, x.Strengths) }

// bottom asks of a case about a kind of ground.
type bottom api.MooringKind

func (k bottom) holds(x mooringCase) int { return x.grounds[k] }

// breeze asks of a case about the wind with an index.
type breeze struct {
	book
	wind int
}

func (b book) breeze(wind int) breeze { return breeze{book: b, wind: wind} }

func (w breeze) strength(x mooringCase) int { return x.strengths[w.wind] }

// gust returns the wind as it blows in a case.
func (w breeze) gust(x mooringCase) gust { return gust{wind: w.wind, strength: w.strength(x)} }

func (w breeze) rides(x mooringCase) bool { return w.ridesOut(w.gust(x), w.holdsIn(x)) }

// ridesInAll tells whether she rides in all winds of a case.
func (b book) ridesInAll(x mooringCase) bool {
	for wind := range b.Winds {
		if !b.breeze(wind).rides(x) {
			return false
		}
	}
	return true
}

// agrees tells whether all nights are right.
func (b book) agrees(x mooringCase) bool {
	for _, n := range b.Nights {
		if b.breeze(n.Wind).rides(x) != n.Rode {
			return false
		}
	}
	return true
}

// cases yields each case of the book.
func (c checked) cases() iter.Seq[mooringCase] {
	return func(yield func(mooringCase) bool) {
		reaches := slices.Concat(c.grounds().reaches, c.strengths().reaches)
		for list := range terms.Numberings(reaches) {
			x := newCase(list[:kinds], list[kinds:])
			if c.agrees(x) && !yield(x) {
				return
			}
		}
	}
}

// hasCase tells whether there is a case.
func (c checked) hasCase() bool { return terms.HasCase(c.cases()) }

func (c checked) isCase(x mooringCase) bool { return terms.IsOneOf(c.cases(), x) }

// ask returns the kind of ground that is to be tested, or -1 if none leaves fewer cases, and how many are left then, at most.
func (c checked) ask() (kind, left int) {
	var lefts []int
	for kind := range kinds {
		lefts = append(lefts, terms.Worst(c.cases(), bottom(kind).holds))
	}
	return terms.Ask(terms.Many(c.cases()), lefts)
}

// only returns the book with no other nights than those of a list.
func (c checked) only(nights []int) checked {
	o := c
	o.Nights = terms.Pick(c.Nights, nights)
	return o
}

// canBe tells whether there is a case with the nights of a list alone.
func (c checked) canBe(nights []int) bool { return c.only(nights).hasCase() }
