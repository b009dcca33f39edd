package bell

import (
	"iter"

	"lagan/api"
	"lagan/terms"
)

// measures are those that the bell leaks in a minute, and behind them what each man breathes; 0 of men whom the book does not have.
type measures [1 + api.MaxBellMen]int

// handedIn returns the measures of a case that has no hitch.
func handedIn(x api.BellCase) measures {
	m := measures{x.Leak}
	copy(m[1:], x.Breaths)
	return m
}

func (m measures) leak() int { return m[0] }

func (m measures) breath(man int) int { return m[1+man] }

// ofMen returns the measures without the breath of all but some men.
func (m measures) ofMen(men []int) measures {
	some := measures{m.leak()}
	for _, man := range men {
		some[1+man] = m.breath(man)
	}
	return some
}

// together returns how many measures it all is.
func (m measures) together() int {
	all := 0
	for _, n := range m {
		all += n
	}
	return all
}

// airCase is a case that can be compared, and the air that there is in it by the plan that was carried out.
type airCase struct {
	measures
	air play
}

// newCase returns what a case that has no hitch says, whether it is a case of the book or not.
func (c checked) newCase(m measures) airCase {
	return airCase{measures: m, air: c.descent(c.Sent).play(m)}
}

// agrees tells whether all marks are right.
func (c checked) agrees(x airCase) bool {
	for _, m := range c.Marks {
		if !terms.Has(m.Dry, dry(c.Depth, x.air[m.Minute-1])) {
			return false
		}
	}
	return true
}

// reaches returns those of the measures, in their order.
func (c checked) reaches() []api.Reach {
	all := []api.Reach{c.Leak}
	for _, m := range c.Men {
		all = append(all, m.Breath)
	}
	return all
}

// cases yields each case of the book.
func (c checked) cases() iter.Seq[airCase] {
	return func(yield func(airCase) bool) {
		for list := range terms.Numberings(c.reaches()) {
			var m measures
			copy(m[:], list)
			x := c.newCase(m)
			if c.agrees(x) && !yield(x) {
				return
			}
		}
	}
}

// hasCase tells whether there is a case.
func (c checked) hasCase() bool { return terms.HasCase(c.cases()) }

func (c checked) isCase(x airCase) bool { return terms.IsOneOf(c.cases(), x) }

// byLeak tells by how much the bell leaks in a case.
func byLeak(x airCase) int { return x.leak() }

// diver asks of a case about the man with this index.
type diver int

func (i diver) breath(x airCase) int { return x.measures.breath(int(i)) }

// ask returns the man whose breath is to be measured, or -1 if none leaves fewer cases, and how many are left then, at most.
func (c checked) ask() (man, left int) {
	return terms.Ask(terms.Many(c.cases()), c.lefts())
}

// lefts returns for each man how many cases are left, at most, once his breath is known.
func (c checked) lefts() []int {
	var lefts []int
	for i := range c.Men {
		lefts = append(lefts, terms.Worst(c.cases(), diver(i).breath))
	}
	return lefts
}

// only returns the book with no other marks than those of a list.
func (c checked) only(marks []int) checked {
	o := c
	o.Marks = terms.Pick(c.Marks, marks)
	return o
}

// canBe tells whether there is a case with the marks of a list alone.
func (c checked) canBe(marks []int) bool { return c.only(marks).hasCase() }
