package slack

import "lagan/terms"

// only returns the book with no other watches than those of a list.
func (c checked) only(watches []int) checked {
	o := c
	o.Watches = terms.Pick(c.Watches, watches)
	return o
}

// canBe tells whether there is a case with the watches of a list alone.
func (c checked) canBe(watches []int) bool { return c.only(watches).hasCase() }
