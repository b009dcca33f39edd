package bearing

import "math/bits"

// group is witnesses: the bit of each of their indexes is set.
type group uint8

func (g group) with(witness int) group { return g | 1<<witness }

func (g group) has(witness int) bool { return g&(1<<witness) != 0 }

func (g group) without(others group) group { return g &^ others }

func (g group) size() int { return bits.OnesCount8(uint8(g)) }

// list returns the indexes, ascending.
func (g group) list() []int {
	var indexes []int
	for i := range bits.Len8(uint8(g)) {
		if g.has(i) {
			indexes = append(indexes, i)
		}
	}
	return indexes
}

// everybody returns all witnesses.
func (b book) everybody() group { return 1<<len(b.Witnesses) - 1 }

// groups returns all groups of witnesses, nobody and everybody among them.
func (b book) groups() []group {
	var all []group
	for g := range b.everybody() + 1 {
		all = append(all, g)
	}
	return all
}

// sure returns the witnesses who surely are not false.
func (b book) sure() group {
	var g group
	for i, w := range b.Witnesses {
		if w.Sure {
			g = g.with(i)
		}
	}
	return g
}

// suspectGroups returns the groups of those who can be false together.
func (b book) suspectGroups() []group {
	var groups []group
	sure := b.sure()
	for _, g := range b.groups() {
		if g&sure == 0 && g.size() <= b.False {
			groups = append(groups, g)
		}
	}
	return groups
}
