package hull

import (
	"cmp"
	"slices"

	"lagan/api"
	"lagan/terms"
)

// moments returns the moments of all cases, with these pieces out, or those; cases that differ in pieces alone that are out have the same one.
func (c checked) moments(each ...outs) map[load]int {
	reckoned := map[load]int{}
	for x := range c.cases() {
		for _, o := range each {
			left := x.without(o)
			if _, ok := reckoned[left]; !ok {
				reckoned[left] = c.moment(left)
			}
		}
	}
	return reckoned
}

// voyage asks of a case about an order.
type voyage struct {
	checked
	order []int
}

func (v voyage) isSafe(x cargo) bool {
	return !slices.ContainsFunc(v.out().behind(v.order), func(o outs) bool { return v.rolls(x, o) })
}

// strained is a book with a case, and how far the moment goes to either side, at most, by which pieces are out.
type strained struct {
	checked
	strains map[outs]int
}

// strainedOf checks a book, and finds how far the moment goes with whatever pieces out.
func strainedOf(b api.HullBook) (strained, api.Hitch) {
	c, h := check(b)
	if h != api.Smooth {
		return strained{}, h
	}
	var all []outs
	for _, pieces := range terms.Lists(len(c.Pieces)) {
		all = append(all, outsOf(pieces))
	}
	s := strained{checked: c, strains: map[outs]int{}}
	for left, moment := range c.moments(all...) {
		s.strains[left.out] = max(s.strains[left.out], moment, -moment)
	}
	return s, terms.HitchUnless(len(s.strains) > 0, api.Adrift)
}

// next returns the pieces that can be lifted behind which the hull surely does not roll, ascending.
func (s strained) next() []int {
	var next []int
	for _, piece := range s.free(s.out()) {
		if s.isBorne(s.try([]int{piece})) {
			next = append(next, piece)
		}
	}
	return next
}

// trial is an order, or how one begins, and how far the moment goes behind its pieces, at most.
type trial struct {
	order  []int
	strain int
}

func (s strained) try(order []int) trial {
	x := trial{order: order}
	for _, o := range s.out().behind(order) {
		x.strain = max(x.strain, s.strains[o])
	}
	return x
}

// isBorne tells whether the hull surely does not roll in a trial.
func (s strained) isBorne(x trial) bool { return !s.rollsAt(x.strain) }

// trials returns those of all orders, which goroutines try.
func (s strained) trials() []trial {
	return terms.Sift(slices.Collect(s.orders()), func(order []int) (trial, bool) { return s.try(order), true })
}

// safe returns the trials of the orders that surely are safe, which goroutines try.
func (s strained) safe() []trial {
	return terms.Sift(slices.Collect(s.orders()), func(order []int) (trial, bool) {
		x := s.try(order)
		return x, s.isBorne(x)
	})
}

func compareOrders(a, b trial) int { return slices.Compare(a.order, b.order) }

func compareStrains(a, b trial) int {
	return cmp.Or(cmp.Compare(a.strain, b.strain), compareOrders(a, b))
}
