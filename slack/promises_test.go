package slack_test

import (
	"math/rand"
	"slices"
	"testing"

	"lagan/api"
	"lagan/model"
	"lagan/slack"
)

// Tests of P3.6 to P3.12: what holds of all books.

// isTold tells whether what is known agrees with what is so.
func isTold(u api.Known, is bool) bool { return u == api.Unsure || (u == api.Surely) == is }

// P3.6, P0.4
func TestWhateverItIs(t *testing.T) {
	r := rand.New(rand.NewSource(6))
	for range 200 {
		b, really := randomBook(r, true)
		if is, h := slack.IsCase(b, really); !is || h != api.Smooth {
			t.Fatalf("%v, %v: no case: %v", b, really, h)
		}
		checkNumbersTold(t, b, really)
		checkTicksTold(t, b, really)
		checkWorksTold(t, b, really, randomWorks(r, 6))
		checkNewsTold(t, b, really)
	}
}

// checkNumbersTold checks that numbers are told as they are.
func checkNumbersTold(t *testing.T, b api.SlackBook, really api.SlackCase) {
	t.Helper()
	if l, _ := slack.Shift(b); !slices.Contains(l, really.Shift) {
		t.Errorf("%v, %v: Shift: %v", b, really, l)
	}
	if l, _ := slack.Clock(b); !slices.Contains(l, really.Clock) {
		t.Errorf("%v, %v: Clock: %v", b, really, l)
	}
	for i, half := range really.Halfs {
		if l, _ := slack.Half(b, i); !slices.Contains(l, half) {
			t.Errorf("%v, %v: Half %d: %v", b, really, i, l)
		}
	}
	if l, h := slack.Clash(b); len(l) > 0 || h != api.Smooth {
		t.Errorf("%v, %v: Clash: %v, %v", b, really, l, h)
	}
}

// checkTicksTold checks that it is slack at all ticks of Sure, and at none that is not of Perhaps.
func checkTicksTold(t *testing.T, b api.SlackBook, really api.SlackCase) {
	t.Helper()
	sure, _ := slack.Sure(b)
	perhaps, _ := slack.Perhaps(b)
	for tick := range 201 {
		is := modelSlack(b, really, tick)
		if u, _ := slack.At(b, tick); !isTold(u, is) {
			t.Errorf("%v, %v: At %d: %v", b, really, tick, u)
		}
		if isInOne(sure, tick, 1) && !is {
			t.Errorf("%v, %v: Sure: %v", b, really, sure)
		}
		if is && !isInOne(perhaps, tick, 1) {
			t.Errorf("%v, %v: Perhaps: %v", b, really, perhaps)
		}
	}
}

// checkWorksTold checks that works are done in slack water, and as many as Many says.
func checkWorksTold(t *testing.T, b api.SlackBook, really api.SlackCase, works []int) {
	t.Helper()
	starts, _ := slack.Starts(b, really, works)
	many, _ := slack.Many(b, works)
	if !model.In(many, len(starts)) {
		t.Errorf("%v, %v: Many %v: %v, but %v", b, really, works, many, starts)
	}
	windows, _ := slack.Windows(b, really)
	for _, plan := range []func(api.SlackBook, []int) ([]int, bool, api.Hitch){slack.Plan, slack.Late} {
		planned, _, _ := plan(b, works)
		for i, begin := range planned {
			if !isInOne(windows, begin, works[i]) {
				t.Errorf("%v, %v: %v: %v", b, really, works, planned)
			}
		}
	}
}

// checkNewsTold checks that no news that are right are refused.
func checkNewsTold(t *testing.T, b api.SlackBook, really api.SlackCase) {
	t.Helper()
	for at := range 201 {
		w := api.SlackWatch{At: at, Slack: modelSlack(b, really, at-really.Clock)}
		if _, h := slack.Watch(b, w); len(b.Watches) < api.MaxSlackWatches && h != api.Smooth {
			t.Errorf("%v, %v: Watch %v: %v", b, really, w, h)
		}
	}
	if _, h := slack.Blow(b, reach(really.Shift, really.Shift)); h != api.Smooth {
		t.Errorf("%v, %v: Blow: %v", b, really, h)
	}
}

// P3.7
func TestNoOthers(t *testing.T) {
	eachRandom(150, func(_ *rand.Rand, b api.SlackBook) {
		shifts, _ := slack.Shift(b)
		for shift := -9; shift <= 9; shift++ {
			if _, h := slack.Blow(b, reach(shift, shift)); (h == api.Smooth) != slices.Contains(shifts, shift) {
				t.Errorf("Shift(%v): %v, but blown to %d: %v", b, shifts, shift, h)
			}
		}
		cases := modelCases(b)
		for tick := range 201 {
			is := func(c api.SlackCase) bool { return modelSlack(b, c, tick) }
			isNot := func(c api.SlackCase) bool { return !is(c) }
			u, h := slack.At(b, tick)
			both := slices.ContainsFunc(cases, is) && slices.ContainsFunc(cases, isNot)
			if h == api.Smooth && (u == api.Unsure) != both {
				t.Errorf("At(%v, %d): %v", b, tick, u)
			}
		}
	})
}

// P3.8
func TestWindowsAreApart(t *testing.T) {
	eachRandom(100, func(r *rand.Rand, b api.SlackBook) {
		c := tideCase(-9+r.Intn(19), -5+r.Intn(11))
		for range b.Turns {
			c.Halfs = append(c.Halfs, r.Intn(10))
		}
		windows, h := slack.Windows(b, c)
		if len(windows) != len(b.Turns) || h != api.Smooth {
			t.Fatalf("Windows(%v, %v): %v, %v", b, c, windows, h)
		}
		for i, w := range windows {
			if w.Most-w.Least != 2*c.Halfs[i] || w.Least < 0 || w.Most > 200 {
				t.Errorf("Windows(%v, %v): %v", b, c, windows)
			}
			if i > 0 && w.Least <= windows[i-1].Most+1 {
				t.Errorf("Windows(%v, %v): %v", b, c, windows)
			}
		}
	})
}

// P3.9
func TestWorksFit(t *testing.T) {
	r := rand.New(rand.NewSource(9))
	for range 400 {
		b, really := randomBook(r, true)
		works := randomWorks(r, 6)
		checkFit(t, works, func(works []int) []int {
			starts, _ := slack.Starts(b, really, works)
			return starts
		})
		early, found, _ := slack.Plan(b, works)
		late, alike, _ := slack.Late(b, works)
		if found != alike || len(early) != len(late) || found && len(early) != len(works) {
			t.Fatalf("%v, %v: Plan: %v, but Late: %v", b, works, early, late)
		}
		for i := range early {
			if early[i] > late[i] {
				t.Errorf("%v, %v: Plan: %v, but Late: %v", b, works, early, late)
			}
		}
		if found {
			checkFit(t, works, func(works []int) []int {
				starts, _, _ := slack.Plan(b, works)
				return starts
			})
		}
	}
}

// checkFit checks when works begin, and when fewer and shorter ones do.
func checkFit(t *testing.T, works []int, fit func(works []int) []int) {
	t.Helper()
	starts := fit(works)
	for i := 1; i < len(starts); i++ {
		if starts[i] < starts[i-1]+works[i-1] {
			t.Errorf("%v: %v", works, starts)
		}
	}
	for many := range len(starts) {
		// One work more never changes the ticks before it.
		if fewer := fit(works[:many]); !slices.Equal(fewer, starts[:many]) {
			t.Errorf("%v: %v, but %v: %v", works, starts, works[:many], fewer)
		}
	}
	for i := range starts {
		shorter := slices.Clone(works[:len(starts)])
		shorter[i] = max(1, shorter[i]-1)
		without := slices.Delete(slices.Clone(works[:len(starts)]), i, i+1)
		was := slices.Delete(slices.Clone(starts), i, i+1)
		checkNoLater(t, shorter, fit(shorter), starts)
		checkNoLater(t, without, fit(without), was)
	}
}

// checkNoLater checks that works fit as others did, and that none begins later.
func checkNoLater(t *testing.T, works, starts, others []int) {
	t.Helper()
	if len(starts) != len(others) {
		t.Errorf("%v: %v, not as %v", works, starts, others)
		return
	}
	for i := range starts {
		if starts[i] > others[i] {
			t.Errorf("%v: %v, later than %v", works, starts, others)
		}
	}
}

// P3.10, P0.5
func TestNews(t *testing.T) {
	learnt := 0
	eachRandom(60, func(r *rand.Rand, b api.SlackBook) {
		works := randomWorks(r, 6)
		check := func(o api.SlackBook, h api.Hitch) {
			if h == api.Smooth {
				learnt++
				checkLearnt(t, b, o, works)
			}
		}
		for range 10 {
			w := api.SlackWatch{At: r.Intn(201), Slack: r.Intn(2) == 0}
			check(slack.Watch(b, w))
		}
		for shift := b.Shift.Least; shift <= b.Shift.Most; shift++ {
			check(slack.Blow(b, reach(shift, 9)))
			check(slack.Blow(b, reach(-9, shift)))
		}
	})
	if learnt < 100 {
		t.Errorf("%d news", learnt)
	}
}

// checkLearnt checks that the new book has nothing that the old one rules out, and keeps what was sure.
func checkLearnt(t *testing.T, before, after api.SlackBook, works []int) {
	t.Helper()
	if mustCases(t, after) > mustCases(t, before) {
		t.Errorf("%v has more cases than %v", after, before)
	}
	for _, numbers := range []func(api.SlackBook) ([]int, api.Hitch){slack.Shift, slack.Clock} {
		was, _ := numbers(before)
		if l, _ := numbers(after); !model.Contains(was, l) {
			t.Errorf("%v has %v, but %v has %v", after, l, before, was)
		}
	}
	for i := range before.Turns {
		was, _ := slack.Half(before, i)
		if l, _ := slack.Half(after, i); !model.Contains(was, l) {
			t.Errorf("%v has %v, but %v has %v", after, l, before, was)
		}
	}
	for tick := range 201 {
		was, _ := slack.At(before, tick)
		if is, _ := slack.At(after, tick); was != api.Unsure && is != was {
			t.Errorf("%v takes back of %v what was sure at %d", after, before, tick)
		}
	}
	was, _ := slack.Many(before, works)
	if is, _ := slack.Many(after, works); is.Least < was.Least || is.Most > was.Most {
		t.Errorf("%v: Many: %v, but %v: %v", after, is, before, was)
	}
	starts, found, _ := slack.Plan(before, works)
	l, still, _ := slack.Plan(after, works)
	if found && !still {
		t.Errorf("%v: %v, but %v: %v", before, starts, after, l)
	}
	sure, _ := slack.Sure(after)
	for i, begin := range starts {
		if !isInOne(sure, begin, works[i]) {
			t.Errorf("the plan %v of %v is good no more in %v", starts, before, after)
		}
	}
}

// P3.10
func TestWatchesClashAlone(t *testing.T) {
	eachRandom(200, func(_ *rand.Rand, b api.SlackBook) {
		l, h := slack.Clash(b)
		clashes := func(l []int) bool { return mustCases(t, only(b, l)) == 0 }
		if len(l) == 0 || h != api.Smooth {
			if mustCases(t, b) == 0 {
				t.Errorf("Clash(%v): %v, %v", b, l, h)
			}
			return
		}
		if !clashes(l) {
			t.Errorf("Clash(%v): %v, but they have a case", b, l)
		}
		for _, few := range model.Lists(len(b.Watches)) {
			if len(few) < len(l) && clashes(few) {
				t.Errorf("Clash(%v): %v, but %v clash", b, l, few)
			}
		}
	})
}

// P3.10
func TestAskedIsWatched(t *testing.T) {
	asked := 0
	eachRandom(200, func(_ *rand.Rand, b api.SlackBook) {
		tick, left, h := slack.Ask(b)
		if h != api.Smooth {
			return
		}
		if cases := mustCases(t, b); (tick < 0) != (left == cases) || left > cases {
			t.Errorf("Ask(%v): %d, %d, of %d cases", b, tick, left, cases)
		}
		if tick < 0 || len(b.Watches) == api.MaxSlackWatches {
			return
		}
		asked++
		most := 0
		for _, is := range []bool{true, false} {
			if o, h := slack.Watch(b, api.SlackWatch{At: tick, Slack: is}); h == api.Smooth {
				most = max(most, mustCases(t, o))
			}
		}
		if most != left {
			t.Errorf("Ask(%v): %d, %d, but %d are left", b, tick, left, most)
		}
	})
	if asked < 50 {
		t.Errorf("Ask asked %d times", asked)
	}
}

// later returns the book all of whose turns are later.
func later(b api.SlackBook, by int) api.SlackBook {
	o := clone(b)
	for i := range o.Turns {
		o.Turns[i].At += by
	}
	return o
}

// laterReaches returns the reaches so much later.
func laterReaches(reaches []api.Reach, by int) []api.Reach {
	var all []api.Reach
	for _, r := range reaches {
		all = append(all, reach(r.Least+by, r.Most+by))
	}
	return all
}

// P3.11
func TestShifted(t *testing.T) {
	shifted := 0
	r := rand.New(rand.NewSource(11))
	for range 200 {
		b, really := randomBook(r, r.Intn(2) == 0)
		by := -5 + r.Intn(11)
		o := later(b, by)
		for i := range o.Watches {
			o.Watches[i].At += by
		}
		if slack.CheckBook(o) != api.Smooth {
			continue
		}
		shifted++
		windows, _ := slack.Windows(b, really)
		if l, h := slack.Windows(o, really); !slices.Equal(l, laterReaches(windows, by)) || h != api.Smooth {
			t.Errorf("Windows(%v): %v, of %v: %v", b, windows, o, l)
		}
		checkSameReaches(t, b, o, by)
	}
	if shifted < 50 {
		t.Errorf("%d books were shifted", shifted)
	}
}

// checkSameReaches checks that two books have the same cases, and tell the same of ticks, those of the second one so much later.
func checkSameReaches(t *testing.T, b, o api.SlackBook, by int) {
	t.Helper()
	if n, m := mustCases(t, b), mustCases(t, o); n != m {
		t.Errorf("Cases(%v): %d, of %v: %d", b, n, o, m)
	}
	for _, reaches := range []func(api.SlackBook) ([]api.Reach, api.Hitch){slack.Sure, slack.Perhaps} {
		l, h := reaches(b)
		if k, g := reaches(o); !slices.Equal(k, laterReaches(l, by)) || g != h {
			t.Errorf("%v: %v, %v, but %v: %v, %v", b, l, h, o, k, g)
		}
	}
}

// P3.11
func TestClockIsWrongByMore(t *testing.T) {
	wrong := 0
	eachRandom(200, func(r *rand.Rand, b api.SlackBook) {
		by := -5 + r.Intn(11)
		o := clone(b)
		o.Clock = reach(b.Clock.Least+by, b.Clock.Most+by)
		for i := range o.Watches {
			o.Watches[i].At += by
		}
		if slack.CheckBook(o) != api.Smooth {
			return
		}
		wrong++
		checkSameReaches(t, b, o, 0)
	})
	if wrong < 50 {
		t.Errorf("%d clocks were wrong by more", wrong)
	}
}

// P3.12
func TestOrderOfWatches(t *testing.T) {
	eachRandom(150, func(r *rand.Rand, b api.SlackBook) {
		o := clone(b)
		r.Shuffle(len(o.Watches), func(i, j int) { o.Watches[i], o.Watches[j] = o.Watches[j], o.Watches[i] })
		checkSameReaches(t, b, o, 0)
		tick, left, h := slack.Ask(b)
		if n, m, g := slack.Ask(o); n != tick || m != left || g != h {
			t.Errorf("Ask(%v): %d, %d, %v, of %v: %d, %d, %v", b, tick, left, h, o, n, m, g)
		}
		for _, numbers := range []func(api.SlackBook) ([]int, api.Hitch){slack.Shift, slack.Clock} {
			l, h := numbers(b)
			if k, g := numbers(o); !slices.Equal(k, l) || g != h {
				t.Errorf("%v: %v, %v, but %v: %v, %v", b, l, h, o, k, g)
			}
		}
		l, _ := slack.Clash(b)
		if k, _ := slack.Clash(o); len(k) != len(l) {
			t.Errorf("Clash(%v): %v, of %v: %v", b, l, o, k)
		}
	})
}
