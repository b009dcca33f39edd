package stint_test

import (
	"math/rand"
	"slices"
	"testing"

	"lagan/api"
	"lagan/model"
	"lagan/stint"
)

// The model is a second, slow way to reckon what package stint tells: it goes through days tick by tick, and writes down all cases and all rotas.

func reach(least, most int) api.Reach { return api.Reach{Least: least, Most: most} }

func one(n int) api.Reach { return reach(n, n) }

// bookT is the book T of the chapter.
func bookT() api.StintBook {
	return api.StintBook{
		Rest:   10,
		Rows:   []api.StintRow{{Depth: 10, Stay: 40}, {Depth: 20, Stay: 20}},
		Places: []api.Reach{reach(9, 11), one(15)},
		Men:    []api.StintMan{{Name: "ann", Deepest: 20}, {Name: "bo", Deepest: 12}},
		Dives:  []api.StintDive{{Place: 0, Begin: 0, Ticks: 20, Men: 2}, {Place: 1, Begin: 30, Ticks: 15, Men: 1}, {Place: 0, Begin: 60, Ticks: 30, Men: 1}},
	}
}

func touched(place, line int) api.StintSounding {
	return api.StintSounding{Place: place, Line: line, Bottom: true}
}

func free(place, line int) api.StintSounding { return api.StintSounding{Place: place, Line: line} }

// sounded returns a book with more soundings.
func sounded(b api.StintBook, soundings ...api.StintSounding) api.StintBook {
	b = clone(b)
	b.Soundings = append(b.Soundings, soundings...)
	return b
}

// bookU is the book U of the chapter.
func bookU() api.StintBook { return sounded(bookT(), touched(0, 10)) }

// adriftBook is a book without a case.
func adriftBook() api.StintBook { return sounded(bookU(), touched(0, 8)) }

// rested returns a book with another rest.
func rested(b api.StintBook, rest int) api.StintBook {
	b.Rest = rest
	return b
}

func clone(b api.StintBook) api.StintBook {
	b.Rows = slices.Clone(b.Rows)
	b.Places = slices.Clone(b.Places)
	b.Men = slices.Clone(b.Men)
	b.Dives = slices.Clone(b.Dives)
	b.Soundings = slices.Clone(b.Soundings)
	return b
}

func equal(a, b api.StintBook) bool {
	same := a.Rest == b.Rest && slices.Equal(a.Rows, b.Rows) && slices.Equal(a.Places, b.Places)
	return same && slices.Equal(a.Men, b.Men) && slices.Equal(a.Dives, b.Dives) && slices.Equal(a.Soundings, b.Soundings)
}

func isZero(b api.StintBook) bool {
	return b.Rest == 0 && b.Rows == nil && b.Places == nil && b.Men == nil && b.Dives == nil && b.Soundings == nil
}

// modelStay returns the stay at a depth: rows that go deeper are asked first, and shallower ones afterwards.
func modelStay(b api.StintBook, depth int) int {
	stay := 0
	for i := len(b.Rows) - 1; i >= 0; i-- {
		if depth <= b.Rows[i].Depth {
			stay = b.Rows[i].Stay
		}
	}
	return stay
}

// modelIs tells whether depths that have no hitch are a case of a book.
func modelIs(b api.StintBook, depths []int) bool {
	for i, r := range b.Places {
		if !model.In(r, depths[i]) {
			return false
		}
	}
	for _, s := range b.Soundings {
		if s.Bottom && s.Line < depths[s.Place] || !s.Bottom && s.Line >= depths[s.Place] {
			return false
		}
	}
	return true
}

// modelAll returns all depths of wider reaches, cases of the book or not.
func modelAll(b api.StintBook, by int) [][]int {
	all := [][]int{{}}
	for _, r := range b.Places {
		var longer [][]int
		for depth := max(1, r.Least-by); depth <= min(api.MaxStintDepth, r.Most+by); depth++ {
			for _, l := range all {
				longer = append(longer, append(slices.Clone(l), depth))
			}
		}
		all = longer
	}
	return all
}

// modelCases returns the cases of a book.
func modelCases(b api.StintBook) [][]int {
	var cases [][]int
	for _, depths := range modelAll(b, 0) {
		if modelIs(b, depths) {
			cases = append(cases, depths)
		}
	}
	return cases
}

// modelMay tells whether a man may do a dive in a case.
func modelMay(b api.StintBook, depths []int, man, dive int) bool {
	d := b.Dives[dive]
	return !(depths[d.Place] > b.Men[man].Deepest) && !(d.Ticks > modelStay(b, depths[d.Place]))
}

// isDown tells whether those who do a dive are down at a tick, or have been for the last few ticks.
func isDown(b api.StintBook, dive, tick, rest int) bool {
	d := b.Dives[dive]
	return tick >= d.Begin && tick < d.Begin+d.Ticks+rest
}

// modelApart tells whether at no tick a man would be in one of two dives, and in the other or at rest from it.
func modelApart(b api.StintBook, one, two int) bool {
	for tick := range 400 {
		if isDown(b, one, tick, 0) && isDown(b, two, tick, b.Rest) || isDown(b, two, tick, 0) && isDown(b, one, tick, b.Rest) {
			return false
		}
	}
	return true
}

// modelRested tells whether nobody is in two dives of a rota that are not apart.
func modelRested(b api.StintBook, rota [][]int) bool {
	for i, men := range rota {
		for k, others := range rota {
			if i == k || modelApart(b, i, k) {
				continue
			}
			for _, man := range men {
				if slices.Contains(others, man) {
					return false
				}
			}
		}
	}
	return true
}

// modelGood tells whether a rota is good in a case.
func modelGood(b api.StintBook, depths []int, rota [][]int) bool {
	for dive, men := range rota {
		for _, man := range men {
			if !modelMay(b, depths, man, dive) {
				return false
			}
		}
	}
	return modelRested(b, rota)
}

// isSure tells whether a rota is good in each case.
func isSure(b api.StintBook, cases [][]int, rota [][]int) bool {
	return model.Known(cases, func(depths []int) bool { return modelGood(b, depths, rota) }) == api.Surely
}

// modelLists returns the lists of men for each dive, as many as it needs, whether they may do it or not.
func modelLists(b api.StintBook) [][][]int {
	all := [][][]int{{}}
	for _, d := range b.Dives {
		var longer [][][]int
		for _, men := range model.Lists(len(b.Men)) {
			if len(men) != d.Men {
				continue
			}
			for _, x := range all {
				longer = append(longer, append(slices.Clone(x), men))
			}
		}
		all = longer
	}
	return all
}

// goodRotas returns the rotas that are good in each case, the least one first.
func goodRotas(b api.StintBook, cases [][]int) [][][]int {
	var all [][][]int
	for _, x := range modelLists(b) {
		if isSure(b, cases, x) {
			all = append(all, x)
		}
	}
	slices.SortFunc(all, compareRotas)
	return all
}

func compareRotas(a, b [][]int) int { return slices.CompareFunc(a, b, slices.Compare) }

func sameRotas(a, b [][]int) bool { return slices.EqualFunc(a, b, slices.Equal) }

// modelBusiest returns for how many ticks of a day he who is down longest is down.
func modelBusiest(b api.StintBook, rota [][]int) int {
	most := 0
	for man := range b.Men {
		down := 0
		for tick := range 400 {
			for dive, men := range rota {
				if slices.Contains(men, man) && isDown(b, dive, tick, 0) {
					down++
				}
			}
		}
		most = max(most, down)
	}
	return most
}

// crewed returns a book with some of its men alone.
func crewed(b api.StintBook, men []int) api.StintBook {
	o := clone(b)
	o.Men = nil
	for _, i := range men {
		o.Men = append(o.Men, b.Men[i])
	}
	return o
}

// dropped returns a book without some of its dives.
func dropped(b api.StintBook, dives []int) api.StintBook {
	o := clone(b)
	o.Dives = nil
	for i, d := range b.Dives {
		if !slices.Contains(dives, i) {
			o.Dives = append(o.Dives, d)
		}
	}
	return o
}

// only returns a book with some of its soundings.
func only(b api.StintBook, list []int) api.StintBook {
	o := clone(b)
	o.Soundings = nil
	for _, i := range list {
		o.Soundings = append(o.Soundings, b.Soundings[i])
	}
	return o
}

// randomTable returns rows that have no hitch.
func randomTable(r *rand.Rand) []api.StintRow {
	var rows []api.StintRow
	depth, stay := 5+r.Intn(12), 20+r.Intn(41)
	for range 1 + r.Intn(4) {
		if depth > api.MaxStintDepth || stay < 1 {
			break
		}
		rows = append(rows, api.StintRow{Depth: depth, Stay: stay})
		depth += 1 + r.Intn(9)
		stay -= r.Intn(16)
	}
	return rows
}

// randomBook returns a book, and how deep places really are: the book is right about it if honest is so.
func randomBook(r *rand.Rand, honest bool) (b api.StintBook, really []int) {
	b = api.StintBook{Rest: r.Intn(4) * r.Intn(21), Rows: randomTable(r)}
	deepest := b.Rows[len(b.Rows)-1].Depth
	for range 1 + r.Intn(3) {
		most := min(api.MaxStintDepth, 3+r.Intn(deepest))
		least := max(1, most-r.Intn(3))
		b.Places = append(b.Places, reach(least, most))
		really = append(really, least+r.Intn(most-least+1))
	}
	for i := range 1 + r.Intn(4) {
		b.Men = append(b.Men, api.StintMan{Name: []string{"ann", "bo", "cy", "di"}[i], Deepest: max(1, min(api.MaxStintDepth, deepest-4+r.Intn(8)))})
	}
	for range 1 + r.Intn(4) {
		place := r.Intn(len(b.Places))
		longest := max(1, modelStay(b, b.Places[place].Least))
		b.Dives = append(b.Dives, api.StintDive{Place: place, Begin: r.Intn(api.MaxStintDay + 1), Ticks: 1 + r.Intn(longest), Men: 1 + r.Intn(1+r.Intn(3))})
	}
	for range r.Intn(4) {
		place := r.Intn(len(b.Places))
		s := free(place, min(api.MaxStintDepth, b.Places[place].Least-1+r.Intn(4)))
		s.Bottom = really[place] <= s.Line
		if !honest && r.Intn(3) == 0 {
			s.Bottom = !s.Bottom
		}
		b.Soundings = append(b.Soundings, s)
	}
	return b, really
}

// soundedAtRandom returns a book with other soundings, right or wrong, all at one place.
func soundedAtRandom(r *rand.Rand, b api.StintBook) api.StintBook {
	b = only(b, nil)
	place := r.Intn(len(b.Places))
	for range 1 + r.Intn(3) {
		line := min(api.MaxStintDepth, b.Places[place].Least-1+r.Intn(4))
		b.Soundings = append(b.Soundings, api.StintSounding{Place: place, Line: line, Bottom: r.Intn(2) == 0})
	}
	return b
}

// eachRandom calls a test with several books, some of which have no case.
func eachRandom(many int, test func(r *rand.Rand, b api.StintBook)) {
	r := rand.New(rand.NewSource(5))
	for i := range many {
		b, _ := randomBook(r, i%2 == 0)
		test(r, b)
	}
}

// randomRota returns a rota without a hitch, good or not; false if there are too few men.
func randomRota(r *rand.Rand, b api.StintBook) ([][]int, bool) {
	all := modelLists(b)
	if len(all) == 0 {
		return nil, false
	}
	return all[r.Intn(len(all))], true
}

func mustCases(t *testing.T, b api.StintBook) int {
	t.Helper()
	n, h := stint.Cases(b)
	if h != api.Smooth {
		t.Fatalf("Cases(%v): %v", b, h)
	}
	return n
}
