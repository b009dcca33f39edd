package bell_test

import (
	"math/rand"
	"slices"
	"testing"

	"lagan/api"
	"lagan/bell"
	"lagan/model"
)

// The model is a second, slow way to reckon what package bell tells: it counts air measure by measure, and writes down all cases and all plans.

func reach(least, most int) api.Reach { return api.Reach{Least: least, Most: most} }

func one(n int) api.Reach { return reach(n, n) }

// bookB is the book B of the chapter.
func bookB() api.BellBook {
	return api.BellBook{
		Room: 30, Depth: 33, Least: 9, Minutes: 5,
		Lamps: 2, Cask: 20, Casks: 2, Pump: 3,
		Leak: reach(0, 1), Pumped: reach(1, 2),
		Men: []api.BellMan{{Name: "ann", Breath: reach(3, 4)}, {Name: "bo", Breath: one(4)}},
	}
}

// bookC is the book C of the chapter.
func bookC() api.BellBook { return marked(bookB(), api.BellMark{Minute: 1, Dry: one(11)}) }

// adriftBook is a book without a case.
func adriftBook() api.BellBook { return marked(bookC(), api.BellMark{Minute: 1, Dry: one(12)}) }

// marked returns a book with more marks.
func marked(b api.BellBook, marks ...api.BellMark) api.BellBook {
	b = clone(b)
	b.Marks = append(b.Marks, marks...)
	return b
}

// sent returns a book with a plan that was carried out.
func sent(b api.BellBook, plan ...int) api.BellBook {
	b = clone(b)
	b.Sent = plan
	return b
}

func airCase(leak int, breaths ...int) api.BellCase {
	return api.BellCase{Leak: leak, Breaths: breaths}
}

func clone(b api.BellBook) api.BellBook {
	b.Men = slices.Clone(b.Men)
	b.Sent = slices.Clone(b.Sent)
	b.Marks = slices.Clone(b.Marks)
	return b
}

// lists are taken out of books, so that what is left can be compared.
type bare struct {
	room, depth, least, minutes, lamps, cask, casks, pump int
	leak, pumped                                          api.Reach
}

func bareOf(b api.BellBook) bare {
	return bare{b.Room, b.Depth, b.Least, b.Minutes, b.Lamps, b.Cask, b.Casks, b.Pump, b.Leak, b.Pumped}
}

func equal(a, b api.BellBook) bool {
	return bareOf(a) == bareOf(b) && slices.Equal(a.Men, b.Men) && slices.Equal(a.Sent, b.Sent) && slices.Equal(a.Marks, b.Marks)
}

func isZero(b api.BellBook) bool {
	return bareOf(b) == bare{} && b.Men == nil && b.Sent == nil && b.Marks == nil
}

// modelDry returns how many divisions deep a bell is dry: each of them takes as much air as 33 feet of water and those above it leave of one.
func modelDry(depth, air int) int {
	deep := 0
	for (deep+1)*(33+depth) <= air*33 {
		deep++
	}
	return deep
}

// modelHolds returns how many measures a bell holds.
func modelHolds(room, depth int) int {
	air := 0
	for (air+1)*33 <= room*(33+depth) {
		air++
	}
	return air
}

// modelPlay returns how many measures there are at the end of each minute, if so many are used in each.
func modelPlay(b api.BellBook, depth int, plan []int, used int) []int {
	var all []int
	air := b.Room
	for minute := 1; minute <= b.Minutes; minute++ {
		for _, m := range plan {
			if m == minute {
				air += b.Cask
			}
		}
		if model.In(b.Pumped, minute) {
			air += b.Pump
		}
		for air > modelHolds(b.Room, depth) {
			air--
		}
		for range used {
			if air > 0 {
				air--
			}
		}
		all = append(all, air)
	}
	return all
}

// modelUsed returns how many measures are used in a minute, if some men are down.
func modelUsed(b api.BellBook, c api.BellCase, men []int) int {
	used := b.Lamps + c.Leak
	for _, i := range men {
		used += c.Breaths[i]
	}
	return used
}

// everybody returns the indexes of all men.
func everybody(b api.BellBook) []int {
	var all []int
	for i := range b.Men {
		all = append(all, i)
	}
	return all
}

// modelAir returns the play of a plan in a case.
func modelAir(b api.BellBook, c api.BellCase, plan []int) []int {
	return modelPlay(b, b.Depth, plan, modelUsed(b, c, everybody(b)))
}

// modelIs tells whether a case that has no hitch is a case of a book.
func modelIs(b api.BellBook, c api.BellCase) bool {
	if !model.In(b.Leak, c.Leak) {
		return false
	}
	for i, m := range b.Men {
		if !model.In(m.Breath, c.Breaths[i]) {
			return false
		}
	}
	air := modelAir(b, c, b.Sent)
	for _, m := range b.Marks {
		if !model.In(m.Dry, modelDry(b.Depth, air[m.Minute-1])) {
			return false
		}
	}
	return true
}

// wider returns the numbers of a reach and some to both sides, within bounds.
func wider(r api.Reach, by int) []int {
	var all []int
	for n := max(0, r.Least-by); n <= min(api.MaxBellUse, r.Most+by); n++ {
		all = append(all, n)
	}
	return all
}

// modelAll returns all cases with numbers of wider reaches, those of the book or not.
func modelAll(b api.BellBook, by int) []api.BellCase {
	breaths := [][]int{{}}
	for _, m := range b.Men {
		var longer [][]int
		for _, breath := range wider(m.Breath, by) {
			for _, l := range breaths {
				longer = append(longer, append(slices.Clone(l), breath))
			}
		}
		breaths = longer
	}
	var all []api.BellCase
	for _, leak := range wider(b.Leak, by) {
		for _, l := range breaths {
			all = append(all, airCase(leak, l...))
		}
	}
	return all
}

// modelCases returns the cases of a book.
func modelCases(b api.BellBook) []api.BellCase {
	var cases []api.BellCase
	for _, c := range modelAll(b, 0) {
		if modelIs(b, c) {
			cases = append(cases, c)
		}
	}
	return cases
}

// modelNumbers returns the numbers that cases have.
func modelNumbers(cases []api.BellCase, of func(c api.BellCase) int) []int {
	var all []int
	for n := range api.MaxBellUse + 1 {
		if slices.ContainsFunc(cases, func(c api.BellCase) bool { return of(c) == n }) {
			all = append(all, n)
		}
	}
	return all
}

// modelBad returns the first minute in which the air of a play is not good, or 0.
func modelBad(b api.BellBook, depth int, air []int) int {
	for i, n := range air {
		if modelDry(depth, n) < b.Least {
			return i + 1
		}
	}
	return 0
}

// modelSure tells whether the air is good in each case, at a depth, by a plan, with some men.
func modelSure(b api.BellBook, cases []api.BellCase, depth int, plan, men []int) bool {
	for _, c := range cases {
		if modelBad(b, depth, modelPlay(b, depth, plan, modelUsed(b, c, men))) > 0 {
			return false
		}
	}
	return true
}

// allPlans returns all plans without a hitch.
func allPlans(b api.BellBook) [][]int {
	var all [][]int
	for _, l := range model.Lists(b.Minutes) {
		if len(l) <= b.Casks {
			for i := range l {
				l[i]++
			}
			all = append(all, l)
		}
	}
	return all
}

// goesOn tells whether a plan goes on.
func goesOn(b api.BellBook, plan []int) bool {
	last := 0
	for _, m := range b.Sent {
		if !slices.Contains(plan, m) {
			return false
		}
		last = max(last, m)
	}
	for _, m := range b.Marks {
		last = max(last, m.Minute)
	}
	for _, m := range plan {
		if !slices.Contains(b.Sent, m) && m <= last {
			return false
		}
	}
	return true
}

// goodPlans returns the plans that go on by which the air surely is good.
func goodPlans(b api.BellBook, cases []api.BellCase) [][]int {
	var all [][]int
	for _, plan := range allPlans(b) {
		if goesOn(b, plan) && modelSure(b, cases, b.Depth, plan, everybody(b)) {
			all = append(all, plan)
		}
	}
	return all
}

// only returns a book with some of its marks.
func only(b api.BellBook, list []int) api.BellBook {
	o := clone(b)
	o.Marks = nil
	for _, i := range list {
		o.Marks = append(o.Marks, b.Marks[i])
	}
	return o
}

func randomReach(r *rand.Rand, least, most int) api.Reach {
	a := least + r.Intn(most-least+1)
	return reach(a, a+r.Intn(3))
}

func randomOf(r *rand.Rand, x api.Reach) int { return x.Least + r.Intn(x.Most-x.Least+1) }

// randomBook returns a book, and how it really is: the book is right about it if honest is so.
func randomBook(r *rand.Rand, honest bool) (api.BellBook, api.BellCase) {
	b := api.BellBook{
		Room: 15 + r.Intn(40), Depth: r.Intn(100), Minutes: 1 + r.Intn(8),
		Lamps: r.Intn(3), Cask: r.Intn(40), Casks: r.Intn(4), Pump: r.Intn(10),
		Leak: randomReach(r, 0, 3),
	}
	b.Pumped.Least = 1 + r.Intn(b.Minutes)
	b.Pumped.Most = b.Pumped.Least + r.Intn(b.Minutes-b.Pumped.Least+1)
	really := airCase(randomOf(r, b.Leak))
	for i := range r.Intn(4) {
		breath := randomReach(r, 1, 4)
		b.Men = append(b.Men, api.BellMan{Name: []string{"ann", "bo", "cy"}[i], Breath: breath})
		really.Breaths = append(really.Breaths, randomOf(r, breath))
	}
	if plans := allPlans(b); r.Intn(2) == 0 {
		b.Sent = plans[r.Intn(len(plans))]
	}
	air := modelAir(b, really, b.Sent)
	for range r.Intn(4) {
		m := api.BellMark{Minute: 1 + r.Intn(b.Minutes)}
		deep := min(api.MaxBellRoom, modelDry(b.Depth, air[m.Minute-1]))
		m.Dry = reach(max(0, deep-r.Intn(2)), min(api.MaxBellRoom, deep+r.Intn(2)))
		if !honest && r.Intn(2) == 0 {
			m.Dry = one(max(0, deep-1+r.Intn(3)))
		}
		b.Marks = append(b.Marks, m)
	}
	// As deep as it is dry at the end by some plan is often just good enough, or just not.
	air = modelAir(b, really, randomPlan(r, b))
	b.Least = min(api.MaxBellRoom, max(0, modelDry(b.Depth, slices.Min(air))-1+r.Intn(4)))
	return b, really
}

// eachRandom calls a test with several books, some of which have no case.
func eachRandom(many int, test func(r *rand.Rand, b api.BellBook)) {
	r := rand.New(rand.NewSource(4))
	for i := range many {
		b, _ := randomBook(r, i%2 == 0)
		test(r, b)
	}
}

// randomPlan returns a plan without a hitch.
func randomPlan(r *rand.Rand, b api.BellBook) []int {
	plans := allPlans(b)
	return plans[r.Intn(len(plans))]
}

func mustCases(t *testing.T, b api.BellBook) int {
	t.Helper()
	n, h := bell.Cases(b)
	if h != api.Smooth {
		t.Fatalf("Cases(%v): %v", b, h)
	}
	return n
}
