package hull_test

import (
	"math/rand"
	"slices"
	"testing"

	"lagan/api"
	"lagan/hull"
	"lagan/model"
)

// The model is a second, slow way to reckon what package hull tells: it lays weights on arms pound by pound, writes down all cases, and goes through all permutations of pieces.

func reach(least, most int) api.Reach { return api.Reach{Least: least, Most: most} }

func one(n int) api.Reach { return reach(n, n) }

// bookH is the book H of the chapter.
func bookH() api.HullBook {
	return api.HullBook{Limit: 62, Pieces: []api.HullPiece{
		{Name: "gun", Arm: -3, Weight: reach(20, 21)},
		{Name: "chest", Arm: 2, Weight: one(30)},
		{Name: "anchor", Arm: 1, Weight: one(10), On: []int{0}},
	}}
}

func heel(after int, side api.HullSide) api.HullHeel { return api.HullHeel{After: after, Side: side} }

func upright(after int) api.HullHeel { return heel(after, api.HullUpright) }

func port(after int) api.HullHeel { return heel(after, api.HullPort) }

func starboard(after int) api.HullHeel { return heel(after, api.HullStarboard) }

// heeled returns a book with more heels.
func heeled(b api.HullBook, heels ...api.HullHeel) api.HullBook {
	b = clone(b)
	b.Heels = append(b.Heels, heels...)
	return b
}

// lifted returns a book with more pieces out.
func lifted(b api.HullBook, pieces ...int) api.HullBook {
	b = clone(b)
	b.Out = append(b.Out, pieces...)
	return b
}

// limited returns a book with another limit.
func limited(b api.HullBook, limit int) api.HullBook {
	b.Limit = limit
	return b
}

// ballasted returns a book with another ballast.
func ballasted(b api.HullBook, ballast api.Reach) api.HullBook {
	b.Ballast = ballast
	return b
}

// weighed returns a book in which a piece weighs something else.
func weighed(b api.HullBook, piece int, weight api.Reach) api.HullBook {
	b = clone(b)
	b.Pieces[piece].Weight = weight
	return b
}

// bookG is the book G of the chapter.
func bookG() api.HullBook { return heeled(lifted(bookH(), 2), upright(1)) }

// adriftBook is a book without a case.
func adriftBook() api.HullBook { return heeled(bookH(), port(0), starboard(0)) }

// emptied is the book H with all pieces out.
func emptied() api.HullBook { return lifted(bookH(), 2, 0, 1) }

func hullCase(ballast int, weights ...int) api.HullCase {
	return api.HullCase{Ballast: ballast, Weights: weights}
}

func clone(b api.HullBook) api.HullBook {
	b.Pieces = slices.Clone(b.Pieces)
	for i, p := range b.Pieces {
		b.Pieces[i].On = slices.Clone(p.On)
	}
	b.Out = slices.Clone(b.Out)
	b.Heels = slices.Clone(b.Heels)
	return b
}

func samePiece(a, b api.HullPiece) bool {
	return a.Name == b.Name && a.Arm == b.Arm && a.Weight == b.Weight && slices.Equal(a.On, b.On)
}

func equal(a, b api.HullBook) bool {
	same := a.Limit == b.Limit && a.Ballast == b.Ballast && slices.EqualFunc(a.Pieces, b.Pieces, samePiece)
	return same && slices.Equal(a.Out, b.Out) && slices.Equal(a.Heels, b.Heels)
}

func isZero(b api.HullBook) bool {
	return b.Limit == 0 && b.Ballast == one(0) && b.Pieces == nil && b.Out == nil && b.Heels == nil
}

// modelMoment returns the moment with some pieces out: each pound counts for each foot.
func modelMoment(b api.HullBook, c api.HullCase, out []int) int {
	starboard, port := max(0, c.Ballast), max(0, -c.Ballast)
	for i, p := range b.Pieces {
		if slices.Contains(out, i) {
			continue
		}
		for range c.Weights[i] {
			for foot := range 10 {
				if foot < p.Arm {
					starboard++
				}
				if foot < -p.Arm {
					port++
				}
			}
		}
	}
	return starboard - port
}

func modelRolls(b api.HullBook, c api.HullCase, out []int) bool {
	moment := modelMoment(b, c, out)
	return moment > b.Limit || moment < -b.Limit
}

func modelSide(moment int) api.HullSide {
	if moment == 0 {
		return api.HullUpright
	}
	if moment < 0 {
		return api.HullPort
	}
	return api.HullStarboard
}

// modelIs tells whether a case that has no hitch is one of a book.
func modelIs(b api.HullBook, c api.HullCase) bool {
	for i, p := range b.Pieces {
		if !model.In(p.Weight, c.Weights[i]) {
			return false
		}
	}
	for many := range len(b.Out) + 1 {
		if modelRolls(b, c, b.Out[:many]) {
			return false
		}
	}
	for _, x := range b.Heels {
		if modelSide(modelMoment(b, c, b.Out[:x.After])) != x.Side {
			return false
		}
	}
	return model.In(b.Ballast, c.Ballast)
}

// modelAll returns all that is of wider reaches, cases of the book or not.
func modelAll(b api.HullBook, by int) []api.HullCase {
	var all []api.HullCase
	for n := max(-api.MaxHullBallast, b.Ballast.Least-by); n <= min(api.MaxHullBallast, b.Ballast.Most+by); n++ {
		all = append(all, hullCase(n))
	}
	for _, p := range b.Pieces {
		var longer []api.HullCase
		for n := max(0, p.Weight.Least-by); n <= min(api.MaxHullWeight, p.Weight.Most+by); n++ {
			for _, c := range all {
				longer = append(longer, hullCase(c.Ballast, append(slices.Clone(c.Weights), n)...))
			}
		}
		all = longer
	}
	return all
}

// modelCases returns the cases of a book.
func modelCases(b api.HullBook) []api.HullCase {
	var cases []api.HullCase
	for _, c := range modelAll(b, 0) {
		if modelIs(b, c) {
			cases = append(cases, c)
		}
	}
	return cases
}

// left returns the pieces that are not out, ascending.
func left(b api.HullBook) []int {
	var all []int
	for i := range b.Pieces {
		if !slices.Contains(b.Out, i) {
			all = append(all, i)
		}
	}
	return all
}

// isUnder tells whether, in an order, a piece is lifted before one that rests on it.
func isUnder(b api.HullBook, order []int) bool {
	for i, piece := range order {
		for _, later := range order[i:] {
			if slices.Contains(b.Pieces[later].On, piece) {
				return true
			}
		}
	}
	return false
}

// modelOrders returns all orders, the least one first.
func modelOrders(b api.HullBook) [][]int {
	return slices.DeleteFunc(model.Permutations(left(b)), func(order []int) bool { return isUnder(b, order) })
}

// modelFree returns the pieces with which an order begins, ascending.
func modelFree(b api.HullBook) []int {
	var free []int
	for _, order := range modelOrders(b) {
		if len(order) > 0 {
			free = append(free, order[0])
		}
	}
	return slices.Compact(free)
}

// behind returns what is out behind each piece of an order.
func behind(b api.HullBook, order []int) [][]int {
	var all [][]int
	for i := range order {
		all = append(all, slices.Concat(b.Out, order[:i+1]))
	}
	return all
}

// modelSafe tells whether an order is safe in a case.
func modelSafe(b api.HullBook, c api.HullCase, order []int) bool {
	return !slices.ContainsFunc(behind(b, order), func(out []int) bool { return modelRolls(b, c, out) })
}

// modelStrain returns how far the moment goes to either side behind the pieces of an order, in all cases.
func modelStrain(b api.HullBook, cases []api.HullCase, order []int) int {
	strain := 0
	for _, c := range cases {
		for _, out := range behind(b, order) {
			moment := modelMoment(b, c, out)
			strain = max(strain, moment, -moment)
		}
	}
	return strain
}

// safeOrders returns the orders that are safe in each case, the least one first.
func safeOrders(b api.HullBook, cases []api.HullCase) [][]int {
	var safe [][]int
	for _, order := range modelOrders(b) {
		if model.Known(cases, func(c api.HullCase) bool { return modelSafe(b, c, order) }) == api.Surely {
			safe = append(safe, order)
		}
	}
	return safe
}

// only returns a book with some of its heels.
func only(b api.HullBook, list []int) api.HullBook {
	o := clone(b)
	o.Heels = nil
	for _, i := range list {
		o.Heels = append(o.Heels, b.Heels[i])
	}
	return o
}

// turned returns a book with port and starboard exchanged.
func turned(b api.HullBook) api.HullBook {
	o := clone(b)
	o.Ballast = reach(-b.Ballast.Most, -b.Ballast.Least)
	for i, p := range b.Pieces {
		o.Pieces[i].Arm = -p.Arm
	}
	for i, x := range b.Heels {
		o.Heels[i].Side = []api.HullSide{api.HullUpright, api.HullStarboard, api.HullPort}[x.Side]
	}
	return o
}

// randomReach returns a reach of three numbers at most, and one of these.
func randomReach(r *rand.Rand, least, most int) (api.Reach, int) {
	x := reach(least, min(most, least+r.Intn(3)))
	return x, x.Least + r.Intn(x.Most-x.Least+1)
}

// randomBook returns a book, and how heavy all really is: the book is right about it if honest is so.
func randomBook(r *rand.Rand, honest bool) (b api.HullBook, really api.HullCase) {
	b.Ballast, really.Ballast = randomReach(r, r.Intn(21)-10, api.MaxHullBallast)
	for i := range 1 + r.Intn(5) {
		p := api.HullPiece{Name: []string{"gun", "chest", "anchor", "bar", "keg"}[i], Arm: r.Intn(9) - 4}
		weight := 0
		p.Weight, weight = randomReach(r, 1+r.Intn(8), api.MaxHullWeight)
		for under := range i {
			if r.Intn(4) == 0 {
				p.On = append(p.On, under)
			}
		}
		b.Pieces, really.Weights = append(b.Pieces, p), append(really.Weights, weight)
	}
	b.Limit = r.Intn(40)
	orders := modelOrders(b)
	order := orders[r.Intn(len(orders))]
	b.Out = slices.Clone(order[:r.Intn(1+r.Intn(len(order)+1))])
	for many := range len(b.Out) + 1 {
		moment := modelMoment(b, really, b.Out[:many])
		if honest || r.Intn(2) == 0 {
			b.Limit = max(b.Limit, moment, -moment)
		}
	}
	for range r.Intn(3) {
		x := upright(r.Intn(len(b.Out) + 1))
		x.Side = modelSide(modelMoment(b, really, b.Out[:x.After]))
		if !honest && r.Intn(3) == 0 {
			x.Side = api.HullSide(r.Intn(3))
		}
		b.Heels = append(b.Heels, x)
	}
	return b, really
}

// heeledAtRandom returns a book of a hull that hardly rolls, with other heels, right or wrong.
func heeledAtRandom(r *rand.Rand, b api.HullBook) api.HullBook {
	b = only(limited(b, api.MaxHullLimit), nil)
	for range 1 + r.Intn(api.MaxHullHeels) {
		b.Heels = append(b.Heels, heel(r.Intn(len(b.Out)+1), api.HullSide(r.Intn(3))))
	}
	return b
}

// eachRandom calls a test with several books, some of which have no case.
func eachRandom(many int, test func(r *rand.Rand, b api.HullBook)) {
	r := rand.New(rand.NewSource(6))
	for i := range many {
		b, _ := randomBook(r, i%2 == 0)
		test(r, b)
	}
}

// randomPieces returns some indexes of pieces, ascending.
func randomPieces(r *rand.Rand, b api.HullBook) []int {
	all := model.Lists(len(b.Pieces))
	return all[r.Intn(len(all))]
}

// randomOrder returns an order, safe or not.
func randomOrder(r *rand.Rand, b api.HullBook) []int {
	all := modelOrders(b)
	return all[r.Intn(len(all))]
}

func mustCases(t *testing.T, b api.HullBook) int {
	t.Helper()
	n, h := hull.Cases(b)
	if h != api.Smooth {
		t.Fatalf("Cases(%v): %v", b, h)
	}
	return n
}
