package season

// tally is how many cases the books of the parts have that are books of layers.
type tally [layerCount]int

// isSettled tells whether the book of a part has just one case: whether all is as it is if it has.
func (t tally) isSettled(part int) bool {
	settled := t
	settled[part] = 1
	return t == settled
}

// counted is a book of a part, by its text, whose cases were counted.
type counted struct{ word, text string }

// census keeps how many cases books have, so that nobody counts those of a book twice.
type census map[counted]int

func (c census) count(p part) int {
	book := counted{word: p.word(), text: p.print()}
	many, is := c[book]
	if !is {
		many = p.count()
		c[book] = many
	}
	return many
}

// tally returns how many cases the parts of a book have.
func (c census) tally(b checked) tally {
	all := b.parts()
	var t tally
	for i := range layerCount {
		t[i] = c.count(all[i])
	}
	return t
}
