package bearing

import "lagan/terms"

// together tells whether all of a group can be right together, whoever else is false.
func (c checked) together(g group) bool {
	for s := range c.settings() {
		if c.wrong(s)&g == 0 {
			return true
		}
	}
	return false
}

// clashes tells whether those of a group cannot be right together.
func (c checked) clashes(g group) bool { return !c.together(g) }

// spares tells whether without a group all others can be right together.
func (c checked) spares(g group) bool { return c.together(c.everybody().without(g)) }

// lists returns the lists of witnesses of whom something is so, in any order.
func (c checked) lists(isSo func(group) bool) [][]int {
	return terms.Sift(c.groups(), func(g group) ([]int, bool) { return g.list(), isSo(g) })
}

// spared returns the fewest witnesses without whom all others can be right together.
func (c checked) spared() []int {
	return terms.Best(terms.Fewest, c.everybody().list(), c.lists(c.spares)...)
}

// clash returns the fewest witnesses who cannot be right together, or nobody.
func (c checked) clash() []int {
	all := c.everybody()
	if c.together(all) {
		return nil
	}
	return terms.Best(terms.Fewest, all.list(), c.lists(c.clashes)...)
}

// ask returns the best witness to ask about, or -1 if nobody leaves fewer cases than there are, and how many are left then, at most.
func (c checked) ask(cases int) (witness, left int) {
	var lefts []int
	for i := range len(c.Witnesses) {
		yes, all := terms.Count(c.cases(), suspect(i).isFalse)
		lefts = append(lefts, max(yes, all-yes))
	}
	return terms.Ask(cases, lefts)
}
