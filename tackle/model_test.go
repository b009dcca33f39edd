package tackle_test

import (
	"math/rand"
	"slices"
	"testing"

	"lagan/api"
	"lagan/model"
	"lagan/tackle"
)

// The model is a second, slow way to reckon what package tackle tells: it finds pulls by trying one after the other, writes down all cases, and goes through all of them for each question.

func reach(least, most int) api.Reach { return api.Reach{Least: least, Most: most} }

func one(n int) api.Reach { return reach(n, n) }

// bookG is the book G of the chapter.
func bookG() api.TackleBook {
	return api.TackleBook{
		Winch:  9,
		Parts:  []api.TacklePart{{Name: "sling", Bears: one(30)}, {Name: "luff", Sheaves: 2, Bears: reach(20, 22)}, {Name: "rope", Bears: one(9)}},
		Gears:  [][]int{{0, 1, 2}, {0, 2}},
		Pieces: []api.TacklePiece{{Name: "chest", Weight: reach(19, 21)}, {Name: "bar", Weight: one(8)}},
	}
}

func held(gear, load int) api.TackleTest { return api.TackleTest{Gear: gear, Load: load, Held: true} }

func gave(gear, load int) api.TackleTest { return api.TackleTest{Gear: gear, Load: load} }

// tried returns a book with more tests.
func tried(b api.TackleBook, tests ...api.TackleTest) api.TackleBook {
	b = clone(b)
	b.Tests = append(b.Tests, tests...)
	return b
}

// borne returns a book in which a part bears something else.
func borne(b api.TackleBook, part int, bears api.Reach) api.TackleBook {
	b = clone(b)
	b.Parts[part].Bears = bears
	return b
}

// weighed returns a book in which a piece weighs something else.
func weighed(b api.TackleBook, piece int, weight api.Reach) api.TackleBook {
	b = clone(b)
	b.Pieces[piece].Weight = weight
	return b
}

// sheaved returns a book in which a part has so many sheaves.
func sheaved(b api.TackleBook, part, sheaves int) api.TackleBook {
	b = clone(b)
	b.Parts[part].Sheaves = sheaves
	return b
}

// geared returns a book with other gears, and no tests.
func geared(b api.TackleBook, gears ...[]int) api.TackleBook {
	b = clone(b)
	b.Gears, b.Tests = gears, nil
	return b
}

// winched returns a book with another winch.
func winched(b api.TackleBook, winch int) api.TackleBook {
	b.Winch = winch
	return b
}

// bookH is the book H of the chapter.
func bookH() api.TackleBook { return tried(bookG(), held(0, 21)) }

// adriftBook is a book without a case.
func adriftBook() api.TackleBook { return tried(bookH(), gave(0, 21)) }

func tackleCase(bears []int, weights ...int) api.TackleCase {
	return api.TackleCase{Bears: bears, Weights: weights}
}

func clone(b api.TackleBook) api.TackleBook {
	b.Parts = slices.Clone(b.Parts)
	b.Gears = slices.Clone(b.Gears)
	for i, gear := range b.Gears {
		b.Gears[i] = slices.Clone(gear)
	}
	b.Pieces = slices.Clone(b.Pieces)
	b.Tests = slices.Clone(b.Tests)
	return b
}

func equal(a, b api.TackleBook) bool {
	gears := slices.EqualFunc(a.Gears, b.Gears, slices.Equal[[]int])
	return a.Winch == b.Winch && slices.Equal(a.Parts, b.Parts) && gears && slices.Equal(a.Pieces, b.Pieces) && slices.Equal(a.Tests, b.Tests)
}

func isZero(b api.TackleBook) bool {
	return b.Winch == 0 && b.Parts == nil && b.Gears == nil && b.Pieces == nil && b.Tests == nil
}

// modelPulls returns the pull on each part of a gear, and on the winch: the least one that is no less than the pull ahead, shared.
func modelPulls(b api.TackleBook, gear, load int) []int {
	pulls := []int{load}
	for _, part := range b.Gears[gear] {
		s, next := b.Parts[part].Sheaves, 0
		for next*10*(s+1) < load*(10+s) {
			next++
		}
		load = next
		pulls = append(pulls, load)
	}
	return pulls
}

// modelGives returns the places of a gear that give.
func modelGives(b api.TackleBook, bears []int, gear, load int) []int {
	var places []int
	strong := []int{}
	for _, part := range b.Gears[gear] {
		strong = append(strong, bears[part])
	}
	strong = append(strong, b.Winch)
	for place, pull := range modelPulls(b, gear, load) {
		if pull > strong[place] {
			places = append(places, place)
		}
	}
	return places
}

func modelLifts(b api.TackleBook, bears []int, gear, load int) bool {
	return len(modelGives(b, bears, gear, load)) == 0
}

// modelIs tells whether a case that has no hitch is one of a book.
func modelIs(b api.TackleBook, c api.TackleCase) bool {
	for i, p := range b.Parts {
		if !model.In(p.Bears, c.Bears[i]) {
			return false
		}
	}
	for i, p := range b.Pieces {
		if !model.In(p.Weight, c.Weights[i]) {
			return false
		}
	}
	for _, x := range b.Tests {
		if modelLifts(b, c.Bears, x.Gear, x.Load) != x.Held {
			return false
		}
	}
	return true
}

// modelAll returns all that is of wider reaches, cases of the book or not.
func modelAll(b api.TackleBook, by int) []api.TackleCase {
	var bears, weights []api.Reach
	for _, p := range b.Parts {
		bears = append(bears, reach(max(0, p.Bears.Least-by), min(api.MaxTackleLoad, p.Bears.Most+by)))
	}
	for _, p := range b.Pieces {
		weights = append(weights, reach(max(1, p.Weight.Least-by), min(api.MaxTackleLoad, p.Weight.Most+by)))
	}
	var all []api.TackleCase
	for _, x := range model.Numberings(bears) {
		for _, y := range model.Numberings(weights) {
			all = append(all, tackleCase(x, y...))
		}
	}
	return all
}

// modelCases returns the cases of a book.
func modelCases(b api.TackleBook) []api.TackleCase {
	var cases []api.TackleCase
	for _, c := range modelAll(b, 0) {
		if modelIs(b, c) {
			cases = append(cases, c)
		}
	}
	return cases
}

// modelMay tells whether a gear lifts a piece.
func modelMay(b api.TackleBook, cases []api.TackleCase, gear, piece int) api.Known {
	return model.Known(cases, func(c api.TackleCase) bool { return modelLifts(b, c.Bears, gear, c.Weights[piece]) })
}

// modelMost returns the greatest load that a gear lifts in each case.
func modelMost(b api.TackleBook, cases []api.TackleCase, gear int) int {
	most := 0
	for load := range api.MaxTackleLoad + 1 {
		if model.Known(cases, func(c api.TackleCase) bool { return modelLifts(b, c.Bears, gear, load) }) == api.Surely {
			most = load
		}
	}
	return most
}

// modelWeak returns the places of a gear that give in some case, ascending.
func modelWeak(b api.TackleBook, cases []api.TackleCase, gear, load int) []int {
	var all []int
	for _, c := range cases {
		all = append(all, modelGives(b, c.Bears, gear, load)...)
	}
	slices.Sort(all)
	return slices.Compact(all)
}

// modelLifted tells whether each piece surely is lifted by the same one of some gears.
func modelLifted(b api.TackleBook, cases []api.TackleCase, gears []int) bool {
	for piece := range b.Pieces {
		if !slices.ContainsFunc(gears, func(gear int) bool { return modelMay(b, cases, gear, piece) == api.Surely }) {
			return false
		}
	}
	return true
}

// modelFewest returns the fewest gears that surely lift all pieces, and whether there are any.
func modelFewest(b api.TackleBook, cases []api.TackleCase) ([]int, bool) {
	return model.FewestOf(len(b.Gears), func(gears []int) bool { return modelLifted(b, cases, gears) })
}

// modelShare returns a gear of its own for each piece, and whether there is one.
func modelShare(b api.TackleBook, cases []api.TackleCase) ([]int, bool) {
	for _, gears := range model.Permutations(model.UpTo(len(b.Gears))) {
		if len(gears) < len(b.Pieces) {
			return nil, false
		}
		gears = gears[:len(b.Pieces)]
		isSure := true
		for piece, gear := range gears {
			isSure = isSure && modelMay(b, cases, gear, piece) == api.Surely
		}
		if isSure {
			return gears, true
		}
	}
	return nil, false
}

// renewed returns cases in which some parts are new.
func renewed(cases []api.TackleCase, parts []int) []api.TackleCase {
	var all []api.TackleCase
	for _, c := range cases {
		bears := slices.Clone(c.Bears)
		for _, part := range parts {
			bears[part] = 99
		}
		all = append(all, tackleCase(bears, c.Weights...))
	}
	return all
}

// modelRenew returns the fewest parts that are to be new, and whether there are any such parts.
func modelRenew(b api.TackleBook, cases []api.TackleCase) ([]int, bool) {
	return model.FewestOf(len(b.Parts), func(parts []int) bool {
		return modelLifted(b, renewed(cases, parts), model.UpTo(len(b.Gears)))
	})
}

// modelAsk returns what is to be tried, and how many cases are left.
func modelAsk(b api.TackleBook, cases []api.TackleCase) (gear, load, left int) {
	gear, load, left = -1, 0, len(cases)
	for g := range b.Gears {
		for l := 1; l <= 99; l++ {
			holds := 0
			for _, c := range cases {
				if modelLifts(b, c.Bears, g, l) {
					holds++
				}
			}
			if most := max(holds, len(cases)-holds); most < left {
				gear, load, left = g, l, most
			}
		}
	}
	return gear, load, left
}

// only returns a book with some of its tests.
func only(b api.TackleBook, list []int) api.TackleBook {
	o := clone(b)
	o.Tests = nil
	for _, i := range list {
		o.Tests = append(o.Tests, b.Tests[i])
	}
	return o
}

// randomReach returns a reach of three numbers at most, and one of these.
func randomReach(r *rand.Rand, least int) (api.Reach, int) {
	x := reach(least, min(api.MaxTackleLoad, least+r.Intn(3)))
	return x, x.Least + r.Intn(x.Most-x.Least+1)
}

// randomBook returns a book, and what is really so: the book is right about it if honest is so. All of it is about as strong as it needs to be.
func randomBook(r *rand.Rand, honest bool) (b api.TackleBook, really api.TackleCase) {
	usual := 6 + r.Intn(12)
	b.Winch = usual/2 + r.Intn(usual)
	for i := range 1 + r.Intn(4) {
		p := api.TacklePart{Name: []string{"sling", "luff", "rope", "hook"}[i], Sheaves: max(0, r.Intn(7)-2)}
		bears := 0
		p.Bears, bears = randomReach(r, usual-4+r.Intn(7))
		b.Parts, really.Bears = append(b.Parts, p), append(really.Bears, bears)
	}
	for range 1 + r.Intn(3) {
		order := r.Perm(len(b.Parts))
		b.Gears = append(b.Gears, order[:1+r.Intn(len(order))])
	}
	for i := range 1 + r.Intn(3) {
		p := api.TacklePiece{Name: []string{"chest", "bar", "gun"}[i]}
		weight := 0
		p.Weight, weight = randomReach(r, 1+r.Intn(usual+2))
		b.Pieces, really.Weights = append(b.Pieces, p), append(really.Weights, weight)
	}
	for range r.Intn(4) {
		x := gave(r.Intn(len(b.Gears)), usual-4+r.Intn(9))
		x.Held = modelLifts(b, really.Bears, x.Gear, x.Load)
		if !honest && r.Intn(4) == 0 {
			x.Held = !x.Held
		}
		b.Tests = append(b.Tests, x)
	}
	return b, really
}

// eachRandom calls a test with several books, some of which have no case.
func eachRandom(many int, test func(r *rand.Rand, b api.TackleBook)) {
	r := rand.New(rand.NewSource(7))
	for i := range many {
		b, _ := randomBook(r, i%2 == 0)
		test(r, b)
	}
}

// triedAtRandom returns a book with three tests about what parts bear, right or wrong.
func triedAtRandom(r *rand.Rand, b api.TackleBook) api.TackleBook {
	b = only(b, nil)
	for range 3 {
		gear := r.Intn(len(b.Gears))
		part := b.Parts[b.Gears[gear][0]].Bears
		b.Tests = append(b.Tests, api.TackleTest{Gear: gear, Load: max(1, part.Least+r.Intn(3)), Held: r.Intn(2) == 0})
	}
	return b
}

func mustCases(t *testing.T, b api.TackleBook) int {
	t.Helper()
	n, h := tackle.Cases(b)
	if h != api.Smooth {
		t.Fatalf("Cases(%v): %v", b, h)
	}
	return n
}
