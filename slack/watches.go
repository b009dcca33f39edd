package slack

import "lagan/terms"

// only returns the book with no other watches than those of a list.
func (c checked) only(watches []int) checked {
	o := c
	o.Watches = nil
	for _, i := range watches {
		o.Watches = append(o.Watches, c.Watches[i])
	}
	return o
}

// clashing returns a list of watches, alone, if there is no case with these alone.
func (c checked) clashing(watches []int) [][]int {
	if terms.HasCase(c.only(watches).cases()) {
		return nil
	}
	return [][]int{watches}
}

// clash returns the fewest watches with which alone there is no case, or none if there is one.
func (c checked) clash() []int {
	lists := terms.Gather(terms.Lists(len(c.Watches)), c.clashing)
	if len(lists) == 0 {
		return nil
	}
	return terms.Best(terms.Fewest, lists[0], lists[1:]...)
}
