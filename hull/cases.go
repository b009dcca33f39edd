package hull

import (
	"iter"

	"lagan/api"
	"lagan/terms"
)

// cargo is a case that can be compared; weights of pieces that the book does not have are 0.
type cargo struct {
	ballast int
	weights [api.MaxHullPieces]int
}

// newCargo returns the ballast and the weights of a case that has no hitch.
func newCargo(ballast int, weights []int) cargo {
	x := cargo{ballast: ballast}
	copy(x.weights[:], weights)
	return x
}

// handedIn makes a case that has no hitch one that can be compared.
func handedIn(x api.HullCase) cargo { return newCargo(x.Ballast, x.Weights) }

// load is what is left in the hull of a case: pieces that are out weigh nothing.
type load struct {
	cargo
	out outs
}

// without returns what is left with some pieces out.
func (x cargo) without(o outs) load {
	left := load{cargo: x, out: o}
	for piece, is := range o {
		if is {
			left.weights[piece] = 0
		}
	}
	return left
}

// moment returns the moment of what is left.
func (b book) moment(left load) int {
	moment := left.ballast
	for piece, p := range b.Pieces {
		moment += p.Arm * left.weights[piece]
	}
	return moment
}

// rollsAt tells whether the hull rolls at a moment.
func (b book) rollsAt(moment int) bool { return max(moment, -moment) > b.Limit }

// rolls tells whether the hull rolls in a case with some pieces out.
func (b book) rolls(x cargo, o outs) bool { return b.rollsAt(b.moment(x.without(o))) }

// leans returns to which side the hull leans at a moment.
func leans(moment int) api.HullSide {
	switch {
	case moment > 0:
		return api.HullStarboard
	case moment < 0:
		return api.HullPort
	}
	return api.HullUpright
}

// agrees tells whether the hull did not roll, and all heels are right.
func (c checked) agrees(x cargo) bool {
	for _, o := range c.past {
		if c.rolls(x, o) {
			return false
		}
	}
	for _, l := range c.Heels {
		if leans(c.moment(x.without(c.past[l.After]))) != l.Side {
			return false
		}
	}
	return true
}

// reaches returns those of the ballast, and of the weights behind it.
func (c checked) reaches() []api.Reach {
	all := []api.Reach{c.Ballast}
	for _, p := range c.Pieces {
		all = append(all, p.Weight)
	}
	return all
}

// cases yields each case of the book.
func (c checked) cases() iter.Seq[cargo] {
	return func(yield func(cargo) bool) {
		for list := range terms.Numberings(c.reaches()) {
			x := newCargo(list[0], list[1:])
			if c.agrees(x) && !yield(x) {
				return
			}
		}
	}
}

// hasCase tells whether there is a case.
func (c checked) hasCase() bool { return terms.HasCase(c.cases()) }

func (c checked) isCase(x cargo) bool { return terms.IsOneOf(c.cases(), x) }

// byBallast tells what the ballast is in a case.
func byBallast(x cargo) int { return x.ballast }

// stowed asks of a case about the piece with this index.
type stowed int

func (i stowed) weight(x cargo) int { return x.weights[i] }

// ask returns the piece that is to be weighed, or -1 if none leaves fewer cases, and how many are left then, at most.
func (c checked) ask() (piece, left int) {
	var lefts []int
	for i := range c.Pieces {
		lefts = append(lefts, terms.Worst(c.cases(), stowed(i).weight))
	}
	return terms.Ask(terms.Many(c.cases()), lefts)
}

// only returns the book with no other heels than those of a list.
func (c checked) only(heels []int) checked {
	o := c
	o.Heels = terms.Pick(c.Heels, heels)
	return o
}

// canBe tells whether there is a case with the heels of a list alone.
func (c checked) canBe(heels []int) bool { return c.only(heels).hasCase() }
