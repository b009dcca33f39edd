package hull

import (
	"iter"
	"slices"

	"lagan/api"
	"lagan/terms"
)

// outs are the pieces that are out.
type outs [api.MaxHullPieces]bool

// outsOf returns the pieces of a list of indexes.
func outsOf(pieces []int) outs {
	var o outs
	for _, piece := range pieces {
		o[piece] = true
	}
	return o
}

// with returns what is out once another piece was lifted.
func (o outs) with(piece int) outs {
	o[piece] = true
	return o
}

// behind returns what is out behind each piece of an order.
func (o outs) behind(order []int) []outs {
	var all []outs
	for _, piece := range order {
		o = o.with(piece)
		all = append(all, o)
	}
	return all
}

// emptied returns what is out once nothing is left.
func (b book) emptied() outs {
	var o outs
	for piece := range b.Pieces {
		o = o.with(piece)
	}
	return o
}

// free returns the pieces that can be lifted, ascending.
func (b book) free(o outs) []int {
	var free []int
pieces:
	for piece := range len(b.Pieces) {
		if o[piece] {
			continue
		}
		for above, p := range b.Pieces {
			if !o[above] && slices.Contains(p.On, piece) {
				continue pieces
			}
		}
		free = append(free, piece)
	}
	return free
}

// lift returns what is out once another piece was lifted, or the hitch by which it cannot be.
func (b book) lift(o outs, piece int) (outs, api.Hitch) {
	switch {
	case !b.hasPiece(piece):
		return outs{}, api.Missing
	case o[piece]:
		return outs{}, api.Double
	case !slices.Contains(b.free(o), piece):
		return outs{}, api.Crossed
	}
	return o.with(piece), api.Smooth
}

// liftAll returns what is out once several pieces were lifted, or the hitch by which the first one that cannot be is not.
func (b book) liftAll(o outs, pieces []int) (outs, api.Hitch) {
	for _, piece := range pieces {
		lifted, h := b.lift(o, piece)
		if h != api.Smooth {
			return outs{}, h
		}
		o = lifted
	}
	return o, api.Smooth
}

// out returns what is out by the book.
func (c checked) out() outs { return c.past[len(c.Out)] }

// checkOrder returns the hitch of an order that is handed in.
func (c checked) checkOrder(order []int) api.Hitch {
	o, h := c.liftAll(c.out(), order)
	if h != api.Smooth {
		return h
	}
	return terms.HitchUnless(o == c.emptied(), api.Number)
}

// orders yields each order, the least one first.
func (c checked) orders() iter.Seq[[]int] {
	return func(yield func([]int) bool) {
		var order []int
		var fill func(o outs) bool
		fill = func(o outs) bool {
			if o == c.emptied() {
				return yield(slices.Clone(order))
			}
			for _, piece := range c.free(o) {
				order = append(order, piece)
				if !fill(o.with(piece)) {
					return false
				}
				order = order[:len(order)-1]
			}
			return true
		}
		fill(c.out())
	}
}
