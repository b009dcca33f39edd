package slack_test

import (
	"math/rand"
	"slices"
	"testing"

	"lagan/api"
	"lagan/model"
	"lagan/slack"
)

// The model is a second, slow way to reckon what package slack tells: it writes down all cases, and all ways to do works.

func reach(least, most int) api.Reach { return api.Reach{Least: least, Most: most} }

// bookS is the book S of the chapter.
func bookS() api.SlackBook {
	return api.SlackBook{
		Shift:   reach(0, 1),
		Turns:   []api.SlackTurn{{At: 40, Half: reach(2, 3)}, {At: 70, Half: reach(1, 1)}},
		Watches: []api.SlackWatch{{At: 43, Slack: true}},
	}
}

// adriftBook is a book without a case.
func adriftBook() api.SlackBook {
	b := bookS()
	b.Watches = append(b.Watches, api.SlackWatch{At: 45, Slack: true})
	return b
}

func tideCase(shift, clock int, halfs ...int) api.SlackCase {
	return api.SlackCase{Shift: shift, Clock: clock, Halfs: halfs}
}

func clone(b api.SlackBook) api.SlackBook {
	b.Turns = slices.Clone(b.Turns)
	b.Watches = slices.Clone(b.Watches)
	return b
}

func equal(a, b api.SlackBook) bool {
	return a.Shift == b.Shift && a.Clock == b.Clock && slices.Equal(a.Turns, b.Turns) && slices.Equal(a.Watches, b.Watches)
}

func isZero(b api.SlackBook) bool {
	return b.Shift == api.Reach{} && b.Clock == api.Reach{} && b.Turns == nil && b.Watches == nil
}

// modelSlack tells whether it is slack at a true tick: whether a turn is near enough.
func modelSlack(b api.SlackBook, c api.SlackCase, tick int) bool {
	for i, t := range b.Turns {
		if max(tick-t.At-c.Shift, t.At+c.Shift-tick) <= c.Halfs[i] {
			return true
		}
	}
	return false
}

// modelIs tells whether a case that has no hitch is a case of a book.
func modelIs(b api.SlackBook, c api.SlackCase) bool {
	if !model.In(b.Shift, c.Shift) || !model.In(b.Clock, c.Clock) {
		return false
	}
	for i, t := range b.Turns {
		if !model.In(t.Half, c.Halfs[i]) {
			return false
		}
	}
	for _, w := range b.Watches {
		if modelSlack(b, c, w.At-c.Clock) != w.Slack {
			return false
		}
	}
	return true
}

// wider returns the numbers of a reach and some to both sides, within bounds.
func wider(r api.Reach, by, least, most int) []int {
	var all []int
	for n := max(least, r.Least-by); n <= min(most, r.Most+by); n++ {
		all = append(all, n)
	}
	return all
}

// modelAll returns all cases with numbers of wider reaches, those of the book or not.
func modelAll(b api.SlackBook, by int) []api.SlackCase {
	halfs := [][]int{{}}
	for _, t := range b.Turns {
		var longer [][]int
		for _, half := range wider(t.Half, by, 0, 9) {
			for _, l := range halfs {
				longer = append(longer, append(slices.Clone(l), half))
			}
		}
		halfs = longer
	}
	var all []api.SlackCase
	for _, shift := range wider(b.Shift, by, -9, 9) {
		for _, clock := range wider(b.Clock, by, -5, 5) {
			for _, l := range halfs {
				all = append(all, tideCase(shift, clock, l...))
			}
		}
	}
	return all
}

// modelCases returns the cases of a book.
func modelCases(b api.SlackBook) []api.SlackCase {
	var cases []api.SlackCase
	for _, c := range modelAll(b, 0) {
		if modelIs(b, c) {
			cases = append(cases, c)
		}
	}
	return cases
}

// modelNumbers returns the numbers from -9 to 9 that cases have.
func modelNumbers(cases []api.SlackCase, of func(c api.SlackCase) int) []int {
	var all []int
	for n := -9; n <= 9; n++ {
		if slices.ContainsFunc(cases, func(c api.SlackCase) bool { return of(c) == n }) {
			all = append(all, n)
		}
	}
	return all
}

// modelReaches returns the longest reaches of ticks of a day.
func modelReaches(isSo func(tick int) bool) []api.Reach {
	var all []api.Reach
	for tick := range 201 {
		switch {
		case !isSo(tick):
		case len(all) > 0 && all[len(all)-1].Most == tick-1:
			all[len(all)-1].Most = tick
		default:
			all = append(all, reach(tick, tick))
		}
	}
	return all
}

// modelSure returns the reaches of ticks at which it surely is slack.
func modelSure(b api.SlackBook, cases []api.SlackCase) []api.Reach {
	return modelReaches(func(tick int) bool {
		return model.Known(cases, func(c api.SlackCase) bool { return modelSlack(b, c, tick) }) == api.Surely
	})
}

// isInOne tells whether all ticks of a piece of work are in one of several reaches.
func isInOne(reaches []api.Reach, begin, work int) bool {
	return slices.ContainsFunc(reaches, func(r api.Reach) bool { return model.In(r, begin) && model.In(r, begin+work-1) })
}

// modelStarts returns when works begin that fit into reaches, as many of them as fit.
func modelStarts(reaches []api.Reach, works []int) []int {
	var starts []int
	next := 0
	for _, work := range works {
		begin := next
		for begin <= 200 && !isInOne(reaches, begin, work) {
			begin++
		}
		if begin > 200 {
			return starts
		}
		starts = append(starts, begin)
		next = begin + work
	}
	return starts
}

// modelPlans returns all ways in which all works can be done in reaches, from a tick on.
func modelPlans(reaches []api.Reach, works []int, from int) [][]int {
	if len(works) == 0 {
		return [][]int{nil}
	}
	var all [][]int
	for begin := from; begin <= 200; begin++ {
		if isInOne(reaches, begin, works[0]) {
			for _, rest := range modelPlans(reaches, works[1:], begin+works[0]) {
				all = append(all, append([]int{begin}, rest...))
			}
		}
	}
	return all
}

// reversed returns the list from its end.
func reversed(list []int) []int {
	l := slices.Clone(list)
	slices.Reverse(l)
	return l
}

// modelLate returns the way in which the last work begins as late as can be, then the one before it, and so on.
func modelLate(plans [][]int) []int {
	return slices.MaxFunc(plans, func(a, b []int) int { return slices.Compare(reversed(a), reversed(b)) })
}

// only returns a book with some of its watches.
func only(b api.SlackBook, list []int) api.SlackBook {
	o := clone(b)
	o.Watches = nil
	for _, i := range list {
		o.Watches = append(o.Watches, b.Watches[i])
	}
	return o
}

func randomReach(r *rand.Rand, least, most int) api.Reach {
	a := least + r.Intn(most-least+1)
	return reach(a, min(most, a+r.Intn(3)))
}

func randomOf(r *rand.Rand, x api.Reach) int { return x.Least + r.Intn(x.Most-x.Least+1) }

// randomBook returns a book, and how it really is: the book is right about it if honest is so.
func randomBook(r *rand.Rand, honest bool) (api.SlackBook, api.SlackCase) {
	b := api.SlackBook{Shift: randomReach(r, -9, 9), Clock: randomReach(r, -5, 5)}
	really := tideCase(randomOf(r, b.Shift), randomOf(r, b.Clock))
	at := 20 + r.Intn(20)
	for range 1 + r.Intn(4) {
		if at > 180 {
			break
		}
		half := randomReach(r, 0, 9)
		b.Turns = append(b.Turns, api.SlackTurn{At: at, Half: half})
		really.Halfs = append(really.Halfs, randomOf(r, half))
		at += 20 + r.Intn(3)*r.Intn(20)
	}
	for range r.Intn(5) {
		near := b.Turns[r.Intn(len(b.Turns))].At + really.Shift + really.Clock - 11 + r.Intn(23)
		w := api.SlackWatch{At: min(200, max(0, near))}
		w.Slack = modelSlack(b, really, w.At-really.Clock)
		if !honest && r.Intn(2) == 0 {
			w.Slack = !w.Slack
		}
		b.Watches = append(b.Watches, w)
	}
	return b, really
}

// eachRandom calls a test with several books, some of which have no case.
func eachRandom(many int, test func(r *rand.Rand, b api.SlackBook)) {
	r := rand.New(rand.NewSource(3))
	for i := range many {
		b, _ := randomBook(r, i%2 == 0)
		test(r, b)
	}
}

// randomWorks returns up to so many works that can fit into windows, but for some.
func randomWorks(r *rand.Rand, many int) []int {
	var works []int
	for range r.Intn(many + 1) {
		works = append(works, 1+r.Intn(1+r.Intn(20)))
	}
	return works
}

func mustCases(t *testing.T, b api.SlackBook) int {
	t.Helper()
	n, h := slack.Cases(b)
	if h != api.Smooth {
		t.Fatalf("Cases(%v): %v", b, h)
	}
	return n
}
