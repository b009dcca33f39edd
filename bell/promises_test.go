package bell_test

import (
	"math/rand"
	"slices"
	"testing"

	"lagan/api"
	"lagan/bell"
	"lagan/model"
)

// Tests of P4.6 to P4.11: what holds of all books.

// isTold tells whether what is known agrees with what is so.
func isTold(u api.Known, is bool) bool { return u == api.Unsure || (u == api.Surely) == is }

// isGood tells whether the air is good in each minute of a play.
func isGood(b api.BellBook, air []int) bool { return modelBad(b, b.Depth, air) == 0 }

// P4.6, P0.4
func TestWhateverItIs(t *testing.T) {
	r := rand.New(rand.NewSource(6))
	for range 200 {
		b, really := randomBook(r, true)
		if is, h := bell.IsCase(b, really); !is || h != api.Smooth {
			t.Fatalf("%v, %v: no case: %v", b, really, h)
		}
		checkNumbersTold(t, b, really)
		for range 5 {
			checkAirTold(t, b, really, randomPlan(r, b))
		}
		checkPlansTold(t, b, really)
		checkNewsTold(t, b, really)
	}
}

// checkNumbersTold checks that numbers are told as they are.
func checkNumbersTold(t *testing.T, b api.BellBook, really api.BellCase) {
	t.Helper()
	if l, _ := bell.Leaks(b); !slices.Contains(l, really.Leak) {
		t.Errorf("%v, %v: Leaks: %v", b, really, l)
	}
	for i, breath := range really.Breaths {
		if l, _ := bell.Breaths(b, i); !slices.Contains(l, breath) {
			t.Errorf("%v, %v: Breaths %d: %v", b, really, i, l)
		}
	}
	if l, h := bell.Clash(b); len(l) > 0 || h != api.Smooth {
		t.Errorf("%v, %v: Clash: %v, %v", b, really, l, h)
	}
}

// checkAirTold checks that the air is told as it is by a plan.
func checkAirTold(t *testing.T, b api.BellBook, really api.BellCase, plan []int) {
	t.Helper()
	air, _ := bell.Play(b, really, plan)
	for i, n := range air {
		if x, _ := bell.Air(b, plan, i+1); !model.In(x, n) {
			t.Errorf("%v, %v: Air %v %d: %v, but %d", b, really, plan, i+1, x, n)
		}
	}
	if u, _ := bell.Good(b, plan); !isTold(u, isGood(b, air)) {
		t.Errorf("%v, %v: Good %v: %v", b, really, plan, u)
	}
	first := modelBad(b, b.Depth, air)
	if n, found, _ := bell.Bad(b, plan); first > 0 && (!found || n > first) {
		t.Errorf("%v, %v: Bad %v: %d, %v", b, really, plan, n, found)
	}
	if depth, found, _ := bell.Deepest(b, plan); found {
		o := b
		o.Depth = depth
		if deep, _ := bell.Play(o, really, plan); !isGood(o, deep) {
			t.Errorf("%v, %v: Deepest %v: %d", b, really, plan, depth)
		}
	}
	if men, found, _ := bell.Crew(b, plan); found {
		if !isGood(b, modelPlay(b, b.Depth, plan, modelUsed(b, really, men))) {
			t.Errorf("%v, %v: Crew %v: %v", b, really, plan, men)
		}
	}
}

// checkPlansTold checks that the air is good by the plans that are found.
func checkPlansTold(t *testing.T, b api.BellBook, really api.BellCase) {
	t.Helper()
	for _, find := range []func(api.BellBook) ([]int, bool, api.Hitch){bell.Fewest, bell.Latest} {
		plan, found, _ := find(b)
		if air, h := bell.Play(b, really, plan); found && (h != api.Smooth || !isGood(b, air)) {
			t.Errorf("%v, %v: %v: %v, %v", b, really, plan, air, h)
		}
	}
}

// checkNewsTold checks that no news that are right are refused.
func checkNewsTold(t *testing.T, b api.BellBook, really api.BellCase) {
	t.Helper()
	air, _ := bell.Play(b, really, b.Sent)
	for i, n := range air {
		deep, _ := bell.Dry(b, n)
		m := api.BellMark{Minute: i + 1, Dry: one(deep)}
		if _, h := bell.Mark(b, m); deep <= api.MaxBellRoom && len(b.Marks) < api.MaxBellMarks && h != api.Smooth {
			t.Errorf("%v, %v: Mark %v: %v", b, really, m, h)
		}
	}
	if _, h := bell.Caulk(b, one(really.Leak)); h != api.Smooth {
		t.Errorf("%v, %v: Caulk: %v", b, really, h)
	}
	for i, breath := range really.Breaths {
		if _, h := bell.Breathe(b, i, one(breath)); h != api.Smooth {
			t.Errorf("%v, %v: Breathe %d: %v", b, really, i, h)
		}
	}
}

// P4.7
func TestNoOthers(t *testing.T) {
	unsure := 0
	eachRandom(200, func(r *rand.Rand, b api.BellBook) {
		leaks, _ := bell.Leaks(b)
		for n := range 100 {
			if _, h := bell.Caulk(b, one(n)); (h == api.Smooth) != slices.Contains(leaks, n) {
				t.Errorf("Leaks(%v): %v, but caulked to %d: %v", b, leaks, n, h)
			}
		}
		for i := range b.Men {
			breaths, _ := bell.Breaths(b, i)
			for n := 1; n < 100; n++ {
				if _, h := bell.Breathe(b, i, one(n)); (h == api.Smooth) != slices.Contains(breaths, n) {
					t.Errorf("Breaths(%v, %d): %v, but measured to %d: %v", b, i, breaths, n, h)
				}
			}
		}
		plan := randomPlan(r, b)
		is := func(c api.BellCase) bool { return isGood(b, modelAir(b, c, plan)) }
		isNot := func(c api.BellCase) bool { return !is(c) }
		cases := modelCases(b)
		both := slices.ContainsFunc(cases, is) && slices.ContainsFunc(cases, isNot)
		u, h := bell.Good(b, plan)
		if h == api.Smooth && (u == api.Unsure) != both {
			t.Errorf("Good(%v, %v): %v", b, plan, u)
		}
		if both {
			unsure++
		}
	})
	if unsure < 10 {
		t.Errorf("%d plans were unsure", unsure)
	}
}

// P4.8
func TestMinuteByMinute(t *testing.T) {
	r := rand.New(rand.NewSource(8))
	for range 300 {
		b, really := randomBook(r, true)
		b.Sent, b.Marks = nil, nil
		plan := randomPlan(r, b)
		air, _ := bell.Play(b, really, plan)
		checkLonger(t, b, really, plan, air)
		full, _ := bell.Holds(b)
		for _, n := range air {
			if n < 0 || n > full {
				t.Errorf("Play(%v, %v, %v): %v, but it holds %d", b, really, plan, air, full)
			}
		}
		checkMoreAir(t, b, really, plan, air)
	}
}

// checkLonger checks that a longer stay begins as this one.
func checkLonger(t *testing.T, b api.BellBook, really api.BellCase, plan, air []int) {
	t.Helper()
	for b.Minutes++; b.Minutes <= api.MaxBellMinutes; b.Minutes++ {
		if l, h := bell.Play(b, really, plan); h != api.Smooth || len(l) != b.Minutes || !slices.Equal(l[:len(air)], air) {
			t.Errorf("Play(%v, %v, %v): %v, %v, but %v", b, really, plan, l, h, air)
		}
	}
}

// checkMoreAir checks that there is no less air with a cask more, a stronger pump, a man less, or a smaller leak.
func checkMoreAir(t *testing.T, b api.BellBook, really api.BellCase, plan, air []int) {
	t.Helper()
	noLess := func(b api.BellBook, c api.BellCase, plan []int) {
		l, h := bell.Play(b, c, plan)
		for i, n := range air {
			if h != api.Smooth || l[i] < n {
				t.Errorf("Play(%v, %v, %v): %v, %v, but %v", b, c, plan, l, h, air)
			}
		}
	}
	for minute := 1; minute <= b.Minutes; minute++ {
		if !slices.Contains(plan, minute) && len(plan) < b.Casks {
			more := append(slices.Clone(plan), minute)
			slices.Sort(more)
			noLess(b, really, more)
		}
	}
	stronger := b
	stronger.Pump++
	noLess(stronger, really, plan)
	for i := range b.Men {
		fewer, without := clone(b), really
		fewer.Men = slices.Delete(fewer.Men, i, i+1)
		without.Breaths = slices.Delete(slices.Clone(really.Breaths), i, i+1)
		noLess(fewer, without, plan)
	}
	if really.Leak > 0 {
		noLess(b, airCase(really.Leak-1, really.Breaths...), plan)
	}
}

// P4.9
func TestPlansAreBest(t *testing.T) {
	found := map[int]int{}
	eachRandom(300, func(r *rand.Rand, b api.BellBook) {
		first, is, h := bell.Fewest(b)
		last, alike, g := bell.Latest(b)
		if is != alike || h != g || len(first) != len(last) || slices.Compare(first, last) > 0 {
			t.Fatalf("%v: Fewest: %v, but Latest: %v", b, first, last)
		}
		if h != api.Smooth {
			return
		}
		if is {
			found[len(first)]++
			checkGoesOn(t, b, first)
			checkGoesOn(t, b, last)
		}
		for _, plan := range allPlans(b) {
			u, _ := bell.Good(b, plan)
			if !goesOn(b, plan) || u != api.Surely {
				continue
			}
			if !is || len(plan) < len(first) || len(plan) == len(first) && (slices.Compare(plan, first) < 0 || slices.Compare(plan, last) > 0) {
				t.Errorf("%v: Fewest: %v, Latest: %v, but %v", b, first, last, plan)
			}
		}
	})
	if found[0] < 10 || found[1] < 10 || found[2] < 10 {
		t.Errorf("so many plans have how many casks: %v", found)
	}
}

// checkGoesOn checks that a plan goes on, and that the air surely is good by it.
func checkGoesOn(t *testing.T, b api.BellBook, plan []int) {
	t.Helper()
	if u, h := bell.Good(b, plan); !goesOn(b, plan) || u != api.Surely || h != api.Smooth {
		t.Errorf("%v: %v: %v, %v", b, plan, u, h)
	}
}

// P4.9
func TestDeepestAndCrewAreBest(t *testing.T) {
	deep, crews := 0, map[int]int{}
	eachRandom(300, func(r *rand.Rand, b api.BellBook) {
		cases := modelCases(b)
		if len(cases) == 0 {
			return
		}
		plan := randomPlan(r, b)
		depth, found, _ := bell.Deepest(b, plan)
		if found {
			deep++
		} else {
			depth = -1
		}
		for deeper := depth + 1; deeper <= api.MaxBellDepth; deeper++ {
			if modelSure(b, cases, deeper, plan, everybody(b)) {
				t.Errorf("Deepest(%v, %v): %d, but %d", b, plan, depth, deeper)
			}
		}
		men, found, _ := bell.Crew(b, plan)
		if found {
			crews[len(b.Men)-len(men)]++
		}
		for i := range b.Men {
			more := append(slices.Clone(men), i)
			if found && !slices.Contains(men, i) && modelSure(b, cases, b.Depth, plan, more) {
				t.Errorf("Crew(%v, %v): %v, but %v", b, plan, men, more)
			}
		}
	})
	if deep < 50 || crews[0] < 10 || crews[1] < 10 {
		t.Errorf("%d depths, and so many crews by how many men are left out: %v", deep, crews)
	}
}

// P4.10, P0.5
func TestNews(t *testing.T) {
	learnt := 0
	eachRandom(100, func(r *rand.Rand, b api.BellBook) {
		check := func(o api.BellBook, h api.Hitch) {
			if h == api.Smooth {
				learnt++
				checkLearnt(t, b, o, randomPlan(r, b))
			}
		}
		for range 10 {
			deep := r.Intn(40)
			check(bell.Mark(b, api.BellMark{Minute: 1 + r.Intn(b.Minutes), Dry: reach(deep, deep+r.Intn(5))}))
		}
		for n := b.Leak.Least; n <= b.Leak.Most; n++ {
			check(bell.Caulk(b, reach(n, 99)))
			check(bell.Caulk(b, reach(0, n)))
		}
		for i, m := range b.Men {
			check(bell.Breathe(b, i, one(m.Breath.Least)))
			check(bell.Breathe(b, i, reach(m.Breath.Least+1, 99)))
		}
	})
	if learnt < 100 {
		t.Errorf("%d news", learnt)
	}
}

// checkLearnt checks that the new book has nothing that the old one rules out, and keeps what was sure.
func checkLearnt(t *testing.T, before, after api.BellBook, plan []int) {
	t.Helper()
	if mustCases(t, after) > mustCases(t, before) {
		t.Errorf("%v has more cases than %v", after, before)
	}
	was, _ := bell.Leaks(before)
	if l, _ := bell.Leaks(after); !model.Contains(was, l) {
		t.Errorf("%v leaks by %v, but %v by %v", after, l, before, was)
	}
	for i := range before.Men {
		was, _ := bell.Breaths(before, i)
		if l, _ := bell.Breaths(after, i); !model.Contains(was, l) {
			t.Errorf("%v: %d breathes %v, but %v: %v", after, i, l, before, was)
		}
	}
	for minute := 1; minute <= before.Minutes; minute++ {
		was, _ := bell.Air(before, plan, minute)
		if x, _ := bell.Air(after, plan, minute); x.Least < was.Least || x.Most > was.Most {
			t.Errorf("%v: Air %v %d: %v, but %v: %v", after, plan, minute, x, before, was)
		}
	}
	good, _ := bell.Good(before, plan)
	if u, _ := bell.Good(after, plan); good != api.Unsure && u != good {
		t.Errorf("%v takes back of %v what was sure by %v", after, before, plan)
	}
	for _, find := range []func(api.BellBook) ([]int, bool, api.Hitch){bell.Fewest, bell.Latest} {
		l, found, _ := find(before)
		if u, _ := bell.Good(after, l); found && u != api.Surely {
			t.Errorf("the plan %v of %v is good no more in %v", l, before, after)
		}
	}
	depth, found, _ := bell.Deepest(before, plan)
	if n, still, _ := bell.Deepest(after, plan); found && (!still || n < depth) {
		t.Errorf("Deepest(%v, %v): %d, but of %v: %d", before, plan, depth, after, n)
	}
	men, found, _ := bell.Crew(before, plan)
	if l, still, _ := bell.Crew(after, plan); found && (!still || len(l) < len(men)) {
		t.Errorf("Crew(%v, %v): %v, but of %v: %v", before, plan, men, after, l)
	}
}

// P4.10
func TestSentChangesNoCase(t *testing.T) {
	sentOnes := 0
	eachRandom(200, func(_ *rand.Rand, b api.BellBook) {
		for minute := 1; minute <= b.Minutes; minute++ {
			o, h := bell.Send(b, minute)
			if h != api.Smooth {
				continue
			}
			sentOnes++
			for _, c := range modelAll(b, 1) {
				was, _ := bell.IsCase(b, c)
				if is, _ := bell.IsCase(o, c); is != was {
					t.Fatalf("IsCase(%v, %v): %v, but of %v: %v", b, c, was, o, is)
				}
			}
		}
	})
	if sentOnes < 100 {
		t.Errorf("%d casks were sent", sentOnes)
	}
}

// P4.10
func TestMarksClashAlone(t *testing.T) {
	eachRandom(200, func(_ *rand.Rand, b api.BellBook) {
		l, h := bell.Clash(b)
		clashes := func(l []int) bool { return mustCases(t, only(b, l)) == 0 }
		if len(l) == 0 || h != api.Smooth {
			if mustCases(t, b) == 0 {
				t.Errorf("Clash(%v): %v, %v", b, l, h)
			}
			return
		}
		if !clashes(l) {
			t.Errorf("Clash(%v): %v, but they have a case", b, l)
		}
		for _, few := range model.Lists(len(b.Marks)) {
			if len(few) < len(l) && clashes(few) {
				t.Errorf("Clash(%v): %v, but %v clash", b, l, few)
			}
		}
	})
}

// P4.10
func TestAskedIsMeasured(t *testing.T) {
	asked := 0
	eachRandom(200, func(_ *rand.Rand, b api.BellBook) {
		man, left, h := bell.Ask(b)
		if h != api.Smooth {
			return
		}
		if cases := mustCases(t, b); (man < 0) != (left == cases) || left > cases {
			t.Errorf("Ask(%v): %d, %d, of %d cases", b, man, left, cases)
		}
		if man < 0 {
			return
		}
		asked++
		most := 0
		breath := b.Men[man].Breath
		for n := breath.Least; n <= breath.Most; n++ {
			if o, h := bell.Breathe(b, man, one(n)); h == api.Smooth {
				most = max(most, mustCases(t, o))
			}
		}
		if most != left {
			t.Errorf("Ask(%v): %d, %d, but %d are left", b, man, left, most)
		}
	})
	if asked < 50 {
		t.Errorf("Ask asked %d times", asked)
	}
}

// P4.11
func TestOrder(t *testing.T) {
	eachRandom(200, func(r *rand.Rand, b api.BellBook) {
		o, men := clone(b), r.Perm(len(b.Men))
		for i, k := range men {
			o.Men[i] = b.Men[k]
		}
		r.Shuffle(len(o.Marks), func(i, j int) { o.Marks[i], o.Marks[j] = o.Marks[j], o.Marks[i] })
		if n, m := mustCases(t, b), mustCases(t, o); n != m {
			t.Errorf("Cases(%v): %d, of %v: %d", b, n, o, m)
		}
		leaks, h := bell.Leaks(b)
		if l, g := bell.Leaks(o); !slices.Equal(l, leaks) || g != h {
			t.Errorf("Leaks(%v): %v, of %v: %v", b, leaks, o, l)
		}
		for i, k := range men {
			breaths, h := bell.Breaths(b, k)
			if l, g := bell.Breaths(o, i); !slices.Equal(l, breaths) || g != h {
				t.Errorf("Breaths(%v): %v, of %v: %v", b, breaths, o, l)
			}
		}
		checkSamePlans(t, b, o, randomPlan(r, b))
		few, _ := bell.Clash(b)
		if l, _ := bell.Clash(o); len(l) != len(few) {
			t.Errorf("Clash(%v): %v, of %v: %v", b, few, o, l)
		}
		_, left, h := bell.Ask(b)
		if _, n, g := bell.Ask(o); n != left || g != h {
			t.Errorf("Ask(%v): %d, %v, of %v: %d, %v", b, left, h, o, n, g)
		}
	})
}

// checkSamePlans checks that two books tell the same of plans.
func checkSamePlans(t *testing.T, b, o api.BellBook, plan []int) {
	t.Helper()
	for _, find := range []func(api.BellBook) ([]int, bool, api.Hitch){bell.Fewest, bell.Latest} {
		l, found, h := find(b)
		if k, is, g := find(o); !slices.Equal(k, l) || is != found || g != h {
			t.Errorf("%v: %v, %v, %v, but %v: %v, %v, %v", b, l, found, h, o, k, is, g)
		}
	}
	for minute := 1; minute <= b.Minutes; minute++ {
		x, h := bell.Air(b, plan, minute)
		if y, g := bell.Air(o, plan, minute); y != x || g != h {
			t.Errorf("%v: Air %v %d: %v, %v, but %v: %v, %v", b, plan, minute, x, h, o, y, g)
		}
	}
	u, h := bell.Good(b, plan)
	if v, g := bell.Good(o, plan); v != u || g != h {
		t.Errorf("%v: Good %v: %v, %v, but %v: %v, %v", b, plan, u, h, o, v, g)
	}
	n, is, h := bell.Bad(b, plan)
	if m, alike, g := bell.Bad(o, plan); m != n || is != alike || g != h {
		t.Errorf("%v: Bad %v: %v, %v, but %v: %v, %v", b, plan, n, h, o, m, g)
	}
	depth, is, h := bell.Deepest(b, plan)
	if m, alike, g := bell.Deepest(o, plan); m != depth || is != alike || g != h {
		t.Errorf("%v: Deepest %v: %v, %v, but %v: %v, %v", b, plan, depth, h, o, m, g)
	}
	men, is, h := bell.Crew(b, plan)
	if l, alike, g := bell.Crew(o, plan); len(l) != len(men) || is != alike || g != h {
		t.Errorf("%v: Crew %v: %v, %v, but %v: %v, %v", b, plan, men, h, o, l, g)
	}
}
