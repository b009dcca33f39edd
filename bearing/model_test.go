package bearing_test

import (
	"math/rand"
	"slices"
	"testing"

	"lagan/api"
	"lagan/bearing"
	"lagan/model"
)

// The model is a second, slow way to reckon what package bearing tells: it writes down all cases.

func at(east, north int) api.BearingSquare { return api.BearingSquare{East: east, North: north} }

func reach(least, most int) api.Reach { return api.Reach{Least: least, Most: most} }

// bookK is the book K of the chapter.
func bookK() api.BearingChart {
	return api.BearingChart{
		Wide: 3, High: 3, False: 1,
		Compasses: []api.Reach{reach(0, 0), reach(0, 1)},
		Witnesses: []api.BearingWitness{
			{At: at(-1, 0), Bearing: 2, Compass: 0},
			{At: at(0, 3), Bearing: 4, Compass: 1},
			{At: at(2, -1), Bearing: 0, Compass: 0},
		},
	}
}

// witnessL is the witness L of the chapter.
func witnessL() api.BearingWitness { return api.BearingWitness{At: at(4, 2), Bearing: 6} }

func clone(b api.BearingChart) api.BearingChart {
	b.Compasses = slices.Clone(b.Compasses)
	b.Witnesses = slices.Clone(b.Witnesses)
	return b
}

func equal(a, b api.BearingChart) bool {
	return a.Wide == b.Wide && a.High == b.High && a.False == b.False &&
		slices.Equal(a.Compasses, b.Compasses) && slices.Equal(a.Witnesses, b.Witnesses)
}

func isZero(b api.BearingChart) bool {
	return b.Wide == 0 && b.High == 0 && b.False == 0 && b.Compasses == nil && b.Witnesses == nil
}

// modelBearing turns the place about by quarters until it lies in the quarter from north to just short of east.
func modelBearing(from, to api.BearingSquare) int {
	x, y := to.East-from.East, to.North-from.North
	quarters := 0
	for x < 0 || y <= 0 {
		x, y = -y, x
		quarters++
	}
	b := 1
	if 12*x <= 5*y {
		b = 0
	}
	if 12*y <= 5*x {
		b = 2
	}
	return (b + 2*quarters) % 8
}

// modelRight tells whether a witness is right.
func modelRight(w api.BearingWitness, s api.BearingSquare, offs []int) bool {
	if w.At == s {
		return true
	}
	return (modelBearing(w.At, s)+offs[w.Compass]-w.Bearing)%8 == 0
}

// modelOffs returns all by which compasses can be off, each reach wider by some on both sides.
func modelOffs(compasses []api.Reach, wider int) [][]int {
	all := [][]int{{}}
	for _, r := range compasses {
		var longer [][]int
		for off := max(r.Least-wider, -3); off <= min(r.Most+wider, 3); off++ {
			for _, l := range all {
				longer = append(longer, append(slices.Clone(l), off))
			}
		}
		all = longer
	}
	return all
}

// modelIs tells whether a case that has no hitch is a case of a book.
func modelIs(b api.BearingChart, c api.BearingCase) bool {
	for i, off := range c.Offs {
		if off < b.Compasses[i].Least || off > b.Compasses[i].Most {
			return false
		}
	}
	if len(c.False) > b.False {
		return false
	}
	for i, w := range b.Witnesses {
		isFalse := slices.Contains(c.False, i)
		if isFalse && w.Sure || !isFalse && !modelRight(w, c.At, c.Offs) {
			return false
		}
	}
	return true
}

// modelAll returns all cases that have no hitch, those of the book or not.
func modelAll(b api.BearingChart, wider int) []api.BearingCase {
	var all []api.BearingCase
	for north := range b.High {
		for east := range b.Wide {
			for _, offs := range modelOffs(b.Compasses, wider) {
				for _, liars := range model.Lists(len(b.Witnesses)) {
					all = append(all, api.BearingCase{At: at(east, north), Offs: offs, False: liars})
				}
			}
		}
	}
	return all
}

// modelCases returns the cases of a book.
func modelCases(b api.BearingChart) []api.BearingCase {
	var cases []api.BearingCase
	for _, c := range modelAll(b, 0) {
		if modelIs(b, c) {
			cases = append(cases, c)
		}
	}
	return cases
}

// only returns a book with some of the witnesses, none of whom can be false.
func only(b api.BearingChart, list []int) api.BearingChart {
	b = clone(b)
	b.False = 0
	all := b.Witnesses
	b.Witnesses = nil
	for _, i := range list {
		b.Witnesses = append(b.Witnesses, all[i])
	}
	return b
}

// others returns the indexes below n that are not in a list.
func others(n int, list []int) []int {
	var rest []int
	for i := range n {
		if !slices.Contains(list, i) {
			rest = append(rest, i)
		}
	}
	return rest
}

// truth is how it really is.
type truth struct {
	at    api.BearingSquare
	offs  []int
	liars []int
}

// randomBook returns a book, and how it really is: the book is right about it if honest is so.
func randomBook(r *rand.Rand, honest bool) (api.BearingChart, truth) {
	b := api.BearingChart{Wide: 2 + r.Intn(3), High: 2 + r.Intn(3), False: r.Intn(3)}
	really := truth{at: at(r.Intn(b.Wide), r.Intn(b.High))}
	for range 1 + r.Intn(3) {
		least := -3 + r.Intn(7)
		most := min(3, least+r.Intn(3))
		b.Compasses = append(b.Compasses, reach(least, most))
		really.offs = append(really.offs, least+r.Intn(most-least+1))
	}
	for i := range r.Intn(6) {
		w := api.BearingWitness{At: at(r.Intn(9)-3, r.Intn(9)-3), Compass: r.Intn(len(b.Compasses)), Bearing: r.Intn(8)}
		if honest && len(really.liars) < b.False && r.Intn(3) == 0 {
			really.liars = append(really.liars, i)
		} else {
			w.Sure = r.Intn(4) == 0
			if w.At != really.at && (honest || r.Intn(3) > 0) {
				w.Bearing = (modelBearing(w.At, really.at) + really.offs[w.Compass] + 8) % 8
			}
		}
		b.Witnesses = append(b.Witnesses, w)
	}
	return b, really
}

// eachRandom calls a test with several books, some of which have no case.
func eachRandom(many int, test func(r *rand.Rand, b api.BearingChart)) {
	r := rand.New(rand.NewSource(1))
	for i := range many {
		b, _ := randomBook(r, i%2 == 0)
		test(r, b)
	}
}

func mustCases(t *testing.T, b api.BearingChart) int {
	t.Helper()
	n, h := bearing.Cases(b)
	if h != api.Smooth {
		t.Fatalf("Cases(%v): %v", b, h)
	}
	return n
}

func mustWhere(t *testing.T, b api.BearingChart) []api.BearingSquare {
	t.Helper()
	l, h := bearing.Where(b)
	if h != api.Smooth {
		t.Fatalf("Where(%v): %v", b, h)
	}
	return l
}
