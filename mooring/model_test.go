package mooring_test

import (
	"math/rand"
	"slices"
	"testing"

	"lagan/api"
	"lagan/model"
	"lagan/mooring"
)

// The model is a second, slow way to reckon what package mooring tells: it finds pulls by trying one after the other, writes down all cases, and goes through all of them for each question.

func reach(least, most int) api.Reach { return api.Reach{Least: least, Most: most} }

func one(n int) api.Reach { return reach(n, n) }

func at(east, north int) api.MooringPlace { return api.MooringPlace{East: east, North: north} }

func anchor(east, north int, ground api.MooringKind, strength, length int) api.MooringAnchor {
	return api.MooringAnchor{At: at(east, north), Ground: ground, Strength: strength, Length: length}
}

func wind(side int, strength api.Reach) api.MooringWind {
	return api.MooringWind{Side: side, Strength: strength}
}

func rode(wind int) api.MooringNight { return api.MooringNight{Wind: wind, Rode: true} }

func dragged(wind int) api.MooringNight { return api.MooringNight{Wind: wind} }

// bookA is the book A of the chapter.
func bookA() api.MooringBook {
	return api.MooringBook{
		Depth:   5,
		Anchors: []api.MooringAnchor{anchor(2, 2, api.MooringSand, 40, 20), anchor(-4, 2, api.MooringMud, 25, 12), anchor(0, -3, api.MooringRock, 30, 30)},
		Grounds: []api.Reach{reach(30, 31), one(24), one(40)},
		Winds:   []api.MooringWind{wind(0, reach(30, 32)), wind(4, one(30))},
	}
}

// caseC is the case C of the chapter.
func caseC() api.MooringCase { return mooringCase([]int{31, 24, 40}, 32, 30) }

func mooringCase(grounds []int, strengths ...int) api.MooringCase {
	return api.MooringCase{Grounds: grounds, Strengths: strengths}
}

// lone is A with its anchor 2 alone.
func lone() api.MooringBook { return anchored(bookA(), bookA().Anchors[2]) }

// both is a book with an anchor on mud for the wind from the north, one on sand for that from the east, and both for that from between; they hold 10, or a little less than is needed.
func both() api.MooringBook {
	return api.MooringBook{
		Depth: 1, Anchors: []api.MooringAnchor{anchor(0, 5, api.MooringMud, 99, 3), anchor(5, 0, api.MooringSand, 99, 3)},
		Grounds: []api.Reach{reach(9, 10), reach(9, 10), one(0)},
		Winds:   []api.MooringWind{wind(0, one(10)), wind(2, one(10)), wind(1, one(19))},
	}
}

// adriftBook is a book without a case.
func adriftBook() api.MooringBook { return spent(bookA(), rode(0), dragged(1)) }

// widest is a book in which all is as much as can be, and as little known.
func widest() api.MooringBook {
	wide := reach(97, 99)
	b := api.MooringBook{Depth: 30, Grounds: []api.Reach{wide, wide, wide}}
	for _, place := range []api.MooringPlace{at(5, 5), at(5, -5), at(-5, -5), at(-5, 5)} {
		b.Anchors = append(b.Anchors, api.MooringAnchor{At: place, Ground: api.MooringKind(len(b.Anchors) % 3), Strength: 99, Length: 99})
	}
	for _, side := range []int{0, 3, 7} {
		b.Winds = append(b.Winds, wind(side, reach(197, 199)))
	}
	return b
}

// spent returns a book with more nights.
func spent(b api.MooringBook, nights ...api.MooringNight) api.MooringBook {
	b = clone(b)
	b.Nights = append(b.Nights, nights...)
	return b
}

// anchored returns a book with other anchors.
func anchored(b api.MooringBook, anchors ...api.MooringAnchor) api.MooringBook {
	b = clone(b)
	b.Anchors = anchors
	return b
}

// moved returns a book with an anchor at another place.
func moved(b api.MooringBook, anchor int, to api.MooringPlace) api.MooringBook {
	b = clone(b)
	b.Anchors[anchor].At = to
	return b
}

// held returns a book in which a kind of ground holds something else.
func held(b api.MooringBook, kind int, holds api.Reach) api.MooringBook {
	b = clone(b)
	b.Grounds[kind] = holds
	return b
}

// blown returns a book with other winds, and no nights.
func blown(b api.MooringBook, winds ...api.MooringWind) api.MooringBook {
	b = clone(b)
	b.Winds, b.Nights = winds, nil
	return b
}

// gauged returns a book in which a wind is of another strength.
func gauged(b api.MooringBook, wind int, strength api.Reach) api.MooringBook {
	b = clone(b)
	b.Winds[wind].Strength = strength
	return b
}

func clone(b api.MooringBook) api.MooringBook {
	b.Anchors = slices.Clone(b.Anchors)
	b.Grounds = slices.Clone(b.Grounds)
	b.Winds = slices.Clone(b.Winds)
	b.Nights = slices.Clone(b.Nights)
	return b
}

func equal(a, b api.MooringBook) bool {
	return a.Depth == b.Depth && slices.Equal(a.Anchors, b.Anchors) && slices.Equal(a.Grounds, b.Grounds) && slices.Equal(a.Winds, b.Winds) && slices.Equal(a.Nights, b.Nights)
}

func isZero(b api.MooringBook) bool {
	return b.Depth == 0 && b.Anchors == nil && b.Grounds == nil && b.Winds == nil && b.Nights == nil
}

// modelWindward returns how far a place is to windward of a side, as the chapter names them.
func modelWindward(p api.MooringPlace, side int) int {
	switch side {
	case 0:
		return p.North
	case 1:
		return p.East + p.North
	case 2:
		return p.East
	case 3:
		return p.East - p.North
	}
	return -modelWindward(p, side-4)
}

// modelPulls returns the pull on each anchor: on those that bear the least one that is no less than the anchor's part.
func modelPulls(b api.MooringBook, side, strength int) []int {
	all := 0
	for _, a := range b.Anchors {
		if far := modelWindward(a.At, side); far > 0 {
			all += far
		}
	}
	pulls := make([]int, len(b.Anchors))
	for i, a := range b.Anchors {
		if far := modelWindward(a.At, side); far > 0 {
			for pulls[i]*all < strength*far {
				pulls[i]++
			}
		}
	}
	return pulls
}

func modelHold(b api.MooringBook, c api.MooringCase, i int) int {
	a := b.Anchors[i]
	holds := c.Grounds[a.Ground]
	if a.Length < 3*b.Depth {
		holds = (holds - holds%2) / 2
	}
	if holds > a.Strength {
		return a.Strength
	}
	return holds
}

// modelSpares returns what each anchor that bears holds less the pull on it, by its index.
func modelSpares(b api.MooringBook, c api.MooringCase, wind int) map[int]int {
	spares := map[int]int{}
	side := b.Winds[wind].Side
	pulls := modelPulls(b, side, c.Strengths[wind])
	for i, a := range b.Anchors {
		if modelWindward(a.At, side) > 0 {
			spares[i] = modelHold(b, c, i) - pulls[i]
		}
	}
	return spares
}

// modelRides tells whether she rides in a wind in a case.
func modelRides(b api.MooringBook, c api.MooringCase, wind int) bool {
	spares := modelSpares(b, c, wind)
	for _, n := range spares {
		if n < 0 {
			return false
		}
	}
	return len(spares) > 0
}

func modelRidesInAll(b api.MooringBook, c api.MooringCase) bool {
	for wind := range b.Winds {
		if !modelRides(b, c, wind) {
			return false
		}
	}
	return true
}

// modelIs tells whether a case that has no hitch is one of a book.
func modelIs(b api.MooringBook, c api.MooringCase) bool {
	for i, r := range b.Grounds {
		if !model.In(r, c.Grounds[i]) {
			return false
		}
	}
	for i, w := range b.Winds {
		if !model.In(w.Strength, c.Strengths[i]) {
			return false
		}
	}
	for _, n := range b.Nights {
		if modelRides(b, c, n.Wind) != n.Rode {
			return false
		}
	}
	return true
}

// modelAll returns all that is of wider reaches, cases of the book or not.
func modelAll(b api.MooringBook, by int) []api.MooringCase {
	var grounds, strengths []api.Reach
	for _, r := range b.Grounds {
		grounds = append(grounds, reach(max(0, r.Least-by), min(99, r.Most+by)))
	}
	for _, w := range b.Winds {
		strengths = append(strengths, reach(max(1, w.Strength.Least-by), min(199, w.Strength.Most+by)))
	}
	var all []api.MooringCase
	for _, x := range model.Numberings(grounds) {
		for _, y := range model.Numberings(strengths) {
			all = append(all, mooringCase(x, y...))
		}
	}
	return all
}

// modelCases returns the cases of a book.
func modelCases(b api.MooringBook) []api.MooringCase {
	var cases []api.MooringCase
	for _, c := range modelAll(b, 0) {
		if modelIs(b, c) {
			cases = append(cases, c)
		}
	}
	return cases
}

// modelLeast returns what each anchor that bears in a wind holds less the pull on it, at least, by its index.
func modelLeast(b api.MooringBook, cases []api.MooringCase, wind int) map[int]int {
	least := map[int]int{}
	for _, c := range cases {
		for i, n := range modelSpares(b, c, wind) {
			if before, ok := least[i]; !ok || n < before {
				least[i] = n
			}
		}
	}
	return least
}

// modelFirst returns the anchor that would drag first, and its number.
func modelFirst(b api.MooringBook, cases []api.MooringCase, wind int) (anchor, spare int, found bool) {
	anchor = -1
	least := modelLeast(b, cases, wind)
	for i := range b.Anchors {
		if n, bears := least[i]; bears && (!found || n < spare) {
			anchor, spare, found = i, n, true
		}
	}
	return anchor, spare, found
}

// modelOpen returns the sides for which no anchor bears.
func modelOpen(b api.MooringBook) []int {
	var open []int
	for side := range 8 {
		bears := func(a api.MooringAnchor) bool { return modelWindward(a.At, side) > 0 }
		if !slices.ContainsFunc(b.Anchors, bears) {
			open = append(open, side)
		}
	}
	return open
}

// places returns all places at which an anchor can lie, from south to north, and from west to east.
func places() []api.MooringPlace {
	var all []api.MooringPlace
	for north := -5; north <= 5; north++ {
		for east := -5; east <= 5; east++ {
			if north != 0 || east != 0 {
				all = append(all, at(east, north))
			}
		}
	}
	return all
}

func distance(a, b int) int {
	if a < b {
		return b - a
	}
	return a - b
}

// feet returns by how many feet an anchor of a book is shifted.
func feet(b api.MooringBook, anchor int, to api.MooringPlace) int {
	from := b.Anchors[anchor].At
	return distance(from.East, to.East) + distance(from.North, to.North)
}

// modelDoes tells whether she rides in all winds, in each of some cases, with an anchor at another place.
func modelDoes(b api.MooringBook, cases []api.MooringCase, anchor int, to api.MooringPlace) bool {
	o := moved(b, anchor, to)
	return model.Known(cases, func(c api.MooringCase) bool { return modelRidesInAll(o, c) }) == api.Surely
}

// modelShift returns what is to be shifted, and where to.
func modelShift(b api.MooringBook, cases []api.MooringCase) (anchor int, to api.MooringPlace, found bool) {
	if model.Known(cases, func(c api.MooringCase) bool { return modelRidesInAll(b, c) }) == api.Surely {
		return -1, at(0, 0), true
	}
	for by := 1; by <= 20; by++ {
		for i := range b.Anchors {
			for _, p := range places() {
				if feet(b, i, p) == by && modelDoes(b, cases, i, p) {
					return i, p, true
				}
			}
		}
	}
	return -1, at(0, 0), false
}

// modelAsk returns the kind that is to be tested, and how many cases are left.
func modelAsk(cases []api.MooringCase) (kind, left int) {
	kind, left = -1, len(cases)
	for k := range 3 {
		most := 0
		for _, n := range model.NumbersOf(cases, func(c api.MooringCase) int { return c.Grounds[k] }) {
			many := 0
			for _, c := range cases {
				if c.Grounds[k] == n {
					many++
				}
			}
			most = max(most, many)
		}
		if most < left {
			kind, left = k, most
		}
	}
	return kind, left
}

// only returns a book with some of its nights.
func only(b api.MooringBook, list []int) api.MooringBook {
	o := clone(b)
	o.Nights = nil
	for _, i := range list {
		o.Nights = append(o.Nights, b.Nights[i])
	}
	return o
}

// modelClash returns the fewest nights with which there is no case.
func modelClash(b api.MooringBook) []int {
	fewest, _ := model.FewestOf(len(b.Nights), func(l []int) bool { return len(modelCases(only(b, l))) == 0 })
	return fewest
}

// randomReach returns a reach of three numbers at most, and one of these.
func randomReach(r *rand.Rand, least, most int) (api.Reach, int) {
	x := reach(least, min(most, least+r.Intn(3)))
	return x, x.Least + r.Intn(x.Most-x.Least+1)
}

// randomBook returns a book, and what is really so: the book is right about it if honest is so. Winds are about as strong as she can bear.
func randomBook(r *rand.Rand, honest bool) (b api.MooringBook, really api.MooringCase) {
	usual := 6 + r.Intn(20)
	b.Depth = 1 + r.Intn(6)
	for range 3 {
		x, n := randomReach(r, usual-4+r.Intn(9), 99)
		b.Grounds, really.Grounds = append(b.Grounds, x), append(really.Grounds, n)
	}
	for range 1 + r.Intn(4) {
		b.Anchors = append(b.Anchors, randomAnchor(r, b.Depth, usual))
	}
	for i := range 1 + r.Intn(3) {
		b.Winds, really.Strengths = append(b.Winds, wind(r.Intn(8), one(1))), append(really.Strengths, 1)
		if slices.Contains(modelOpen(b), b.Winds[i].Side) {
			b.Winds[i].Side = r.Intn(8)
		}
		for really.Strengths[i] < 3*usual && modelRides(b, really, i) {
			really.Strengths[i]++
		}
		b.Winds[i].Strength, really.Strengths[i] = randomReach(r, max(1, really.Strengths[i]-4+r.Intn(5)), 199)
	}
	for range r.Intn(5) {
		n := dragged(r.Intn(len(b.Winds)))
		n.Rode = modelRides(b, really, n.Wind)
		if !honest && r.Intn(4) == 0 {
			n.Rode = !n.Rode
		}
		b.Nights = append(b.Nights, n)
	}
	return b, really
}

func randomAnchor(r *rand.Rand, depth, usual int) api.MooringAnchor {
	far := 2 + r.Intn(4)
	a := anchor(r.Intn(2*far+1)-far, r.Intn(2*far+1)-far, api.MooringKind(r.Intn(3)), usual-4+r.Intn(12), max(1, 3*depth-2+r.Intn(6)))
	if a.At == at(0, 0) {
		a.At.North = far
	}
	return a
}

// eachRandom calls a test with several books, some of which have no case.
func eachRandom(many int, test func(r *rand.Rand, b api.MooringBook)) {
	r := rand.New(rand.NewSource(7))
	for i := range many {
		b, _ := randomBook(r, i%2 == 0)
		test(r, b)
	}
}

func mustCases(t *testing.T, b api.MooringBook) int {
	t.Helper()
	n, h := mooring.Cases(b)
	if h != api.Smooth {
		t.Fatalf("Cases(%v): %v", b, h)
	}
	return n
}
