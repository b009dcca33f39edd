package mooring_test

import (
	"math/rand"
	"slices"
	"testing"

	"lagan/api"
	"lagan/model"
	"lagan/mooring"
)

// Tests of P8.6 to P8.12: what holds of all books.

// P8.6, P0.4
func TestWhateverItIs(t *testing.T) {
	r := rand.New(rand.NewSource(8))
	sure, drags, shifted := 0, 0, 0
	for range 400 {
		b, really := randomBook(r, true)
		if is, h := mooring.IsCase(b, really); !is || h != api.Smooth {
			t.Fatalf("%v, %v: no case: %v", b, really, h)
		}
		checkTold(t, r, b, really)
		for wind := range b.Winds {
			u, h := mooring.Rides(b, wind)
			if h != api.Smooth || u != api.Unsure && (u == api.Surely) != modelRides(b, really, wind) {
				t.Errorf("%v, %v: Rides %d: %v, %v", b, really, wind, u, h)
			}
			if u != api.Unsure {
				sure++
			}
			drags += checkDrags(t, b, really, wind)
		}
		u, h := mooring.Safe(b)
		if h != api.Smooth || u != api.Unsure && (u == api.Surely) != modelRidesInAll(b, really) {
			t.Errorf("%v, %v: Safe: %v, %v", b, really, u, h)
		}
		if anchor, to, found, h := mooring.Shift(b); found && anchor >= 0 {
			shifted++
			if !modelRidesInAll(moved(b, anchor, to), really) {
				t.Errorf("%v, %v: Shift: %d, %v, %v", b, really, anchor, to, h)
			}
		}
	}
	if sure < 200 || drags < 100 || shifted < 50 {
		t.Errorf("%d times it is sure whether she rides, %d anchors drag, %d books have a shift", sure, drags, shifted)
	}
}

// checkDrags checks that what drags had been told to, and returns how many anchors do.
func checkDrags(t *testing.T, b api.MooringBook, really api.MooringCase, wind int) int {
	t.Helper()
	drags := 0
	_, least, found, h := mooring.First(b, wind)
	for _, n := range modelSpares(b, really, wind) {
		if !found || n < least || h != api.Smooth {
			t.Errorf("%v, %v: First %d: %d, %v, %v, but %d", b, really, wind, least, found, h, n)
		}
		if n < 0 {
			drags++
		}
	}
	return drags
}

// checkTold checks that all is told of grounds and winds as it is, and that nothing right is refused.
func checkTold(t *testing.T, r *rand.Rand, b api.MooringBook, really api.MooringCase) {
	t.Helper()
	if l, h := mooring.Clash(b); len(l) > 0 || h != api.Smooth {
		t.Errorf("%v, %v: Clash: %v, %v", b, really, l, h)
	}
	for i, n := range really.Grounds {
		kind := api.MooringKind(i)
		if l, _ := mooring.Grounds(b, kind); !slices.Contains(l, n) {
			t.Errorf("%v, %v: Grounds %d: %v", b, really, kind, l)
		}
		if _, h := mooring.Test(b, kind, one(n)); h != api.Smooth {
			t.Errorf("%v, %v: Test %d: %v", b, really, kind, h)
		}
	}
	for wind, n := range really.Strengths {
		if l, _ := mooring.Strengths(b, wind); !slices.Contains(l, n) {
			t.Errorf("%v, %v: Strengths %d: %v", b, really, wind, l)
		}
		if _, h := mooring.Gauge(b, wind, one(n)); h != api.Smooth {
			t.Errorf("%v, %v: Gauge %d: %v", b, really, wind, h)
		}
	}
	n := dragged(r.Intn(len(b.Winds)))
	n.Rode = modelRides(b, really, n.Wind)
	if _, h := mooring.Night(b, n); (h != api.Smooth) != (len(b.Nights) == 4) {
		t.Errorf("%v, %v: Night %v: %v", b, really, n, h)
	}
}

// P8.7
func TestNoOthers(t *testing.T) {
	several, unsures := 0, 0
	eachRandom(300, func(_ *rand.Rand, b api.MooringBook) {
		for i, x := range b.Grounds {
			kind := api.MooringKind(i)
			l, _ := mooring.Grounds(b, kind)
			for n := max(0, x.Least-2); n <= x.Most+2; n++ {
				if _, h := mooring.Test(b, kind, one(n)); slices.Contains(l, n) != (h == api.Smooth) {
					t.Errorf("Grounds(%v, %d): %v, but tested as %d: %v", b, kind, l, n, h)
				}
			}
			if len(l) > 1 {
				several++
			}
		}
		for wind, w := range b.Winds {
			l, _ := mooring.Strengths(b, wind)
			for n := max(1, w.Strength.Least-2); n <= w.Strength.Most+2; n++ {
				if _, h := mooring.Gauge(b, wind, one(n)); slices.Contains(l, n) != (h == api.Smooth) {
					t.Errorf("Strengths(%v, %d): %v, but gauged as %d: %v", b, wind, l, n, h)
				}
			}
			unsures += checkUnsure(t, b, wind)
		}
	})
	if several < 300 || unsures < 50 {
		t.Errorf("%d kinds can hold several numbers, and so much was unsure: %d", several, unsures)
	}
}

// checkUnsure checks that what is unsure is so in a case, and is not in another one, and returns how much that is.
func checkUnsure(t *testing.T, b api.MooringBook, wind int) int {
	t.Helper()
	u, h := mooring.Rides(b, wind)
	if h != api.Smooth || u != api.Unsure {
		return 0
	}
	so := map[bool]int{}
	for _, c := range modelAll(b, 0) {
		if is, _ := mooring.IsCase(b, c); is {
			so[modelRides(b, c, wind)]++
		}
	}
	if so[true] == 0 || so[false] == 0 {
		t.Errorf("Rides(%v, %d): %v, but %v", b, wind, u, so)
	}
	return 1
}

// P8.8
func TestPullsTogether(t *testing.T) {
	eachRandom(200, func(_ *rand.Rand, b api.MooringBook) {
		c := mooringCase([]int{0, 0, 0}, make([]int, len(b.Winds))...)
		for wind, w := range b.Winds {
			before := make([]int, len(b.Anchors))
			for strength := 1; strength <= 199; strength++ {
				for i := range c.Strengths {
					c.Strengths[i] = 1
				}
				c.Strengths[wind] = strength
				l, h := mooring.Pulls(b, c, wind)
				if len(l) != len(b.Anchors) || h != api.Smooth {
					t.Fatalf("Pulls(%v, %v, %d): %v, %v", b, c, wind, l, h)
				}
				together, bearing := 0, 0
				for i, pull := range l {
					bears := modelWindward(b.Anchors[i].At, w.Side) > 0
					if bears != (pull > 0) || pull < before[i] {
						t.Errorf("Pulls(%v, %v, %d): %v, and in less wind: %v", b, c, wind, l, before)
					}
					if bears {
						bearing++
						together += pull
					}
				}
				if bearing > 0 && (together < strength || together-strength >= bearing) {
					t.Errorf("Pulls(%v, %v, %d): %v", b, c, wind, l)
				}
				before = l
			}
		}
	})
}

// P8.9
func TestFirstTellsWhetherSheRides(t *testing.T) {
	open := 0
	eachRandom(300, func(_ *rand.Rand, b api.MooringBook) {
		sides, _ := mooring.Open(b)
		for wind, w := range b.Winds {
			u, h := mooring.Rides(b, wind)
			anchor, spare, found, g := mooring.First(b, wind)
			if h != g || h == api.Smooth && (u == api.Surely) != (found && spare >= 0) {
				t.Errorf("%v, %d: Rides: %v, %v, First: %d, %d, %v, %v", b, wind, u, h, anchor, spare, found, g)
			}
			if h != api.Smooth || !slices.Contains(sides, w.Side) {
				continue
			}
			open++
			if u != api.Never || found || anchor != -1 {
				t.Errorf("%v, %d: Rides: %v, First: %d, %v", b, wind, u, anchor, found)
			}
		}
		for side := range 8 {
			o := blown(b, wind(side, one(1)))
			for i := range o.Grounds {
				o.Grounds[i] = one(99)
			}
			u, h := mooring.Rides(o, 0)
			if h != api.Smooth || (u == api.Never) != slices.Contains(sides, side) {
				t.Errorf("Open(%v): %v, but %d: %v, %v", b, sides, side, u, h)
			}
		}
	})
	if open < 50 {
		t.Errorf("%d winds came from an open side", open)
	}
}

// P8.9: behind a shift that is told she surely rides in all winds, and no shorter one does.
func TestShiftIsShortest(t *testing.T) {
	found := 0
	eachRandom(200, func(_ *rand.Rand, b api.MooringBook) {
		b = only(b, nil) // so that a book with an anchor elsewhere has the same cases
		anchor, to, is, h := mooring.Shift(b)
		safe, _ := mooring.Safe(b)
		if h != api.Smooth || (safe == api.Surely) != (is && anchor < 0) {
			t.Fatalf("Shift(%v): %d, %v, %v, %v, but Safe: %v", b, anchor, to, is, h, safe)
		}
		if is && anchor < 0 {
			return
		}
		if is {
			found++
			if u, _ := mooring.Safe(moved(b, anchor, to)); u != api.Surely {
				t.Errorf("Shift(%v): %d, %v, but Safe: %v", b, anchor, to, u)
			}
		}
		cases := modelCases(b)
		for i := range b.Anchors {
			for _, p := range places() {
				shorter := !is || feet(b, i, p) < feet(b, anchor, to)
				if shorter && p != b.Anchors[i].At && modelDoes(b, cases, i, p) {
					t.Errorf("Shift(%v): %d, %v, %v, but %d, %v", b, anchor, to, is, i, p)
				}
			}
		}
	})
	if found < 40 {
		t.Errorf("%d books have a shift", found)
	}
}

// news returns a book in which something is new that was seen, gauged or tested, right or wrong.
func news(r *rand.Rand, b api.MooringBook) (api.MooringBook, api.Hitch) {
	kind, wind := r.Intn(3), r.Intn(len(b.Winds))
	switch r.Intn(3) {
	case 0:
		return mooring.Night(b, api.MooringNight{Wind: wind, Rode: r.Intn(2) == 0})
	case 1:
		x, _ := randomReach(r, max(1, b.Winds[wind].Strength.Least-1+r.Intn(3)), 199)
		return mooring.Gauge(b, wind, x)
	default:
		x, _ := randomReach(r, max(0, b.Grounds[kind].Least-1+r.Intn(3)), 99)
		return mooring.Test(b, api.MooringKind(kind), x)
	}
}

// P8.10, P0.5
func TestNewsTakeNothingBack(t *testing.T) {
	learnt := 0
	eachRandom(300, func(r *rand.Rand, b api.MooringBook) {
		for range 5 {
			if o, h := news(r, b); h == api.Smooth {
				learnt++
				checkLearnt(t, b, o)
			}
		}
	})
	if learnt < 300 {
		t.Errorf("%d news", learnt)
	}
}

// checkLearnt checks that the new book has nothing that the old one rules out, and keeps what was sure.
func checkLearnt(t *testing.T, before, after api.MooringBook) {
	t.Helper()
	if mustCases(t, after) > mustCases(t, before) {
		t.Errorf("%v has more cases than %v", after, before)
	}
	for kind := range api.MooringKind(3) {
		was, _ := mooring.Grounds(before, kind)
		if l, _ := mooring.Grounds(after, kind); !model.Contains(was, l) {
			t.Errorf("%v: %d holds %v, but %v: %v", after, kind, l, before, was)
		}
	}
	for wind := range before.Winds {
		was, _ := mooring.Strengths(before, wind)
		if l, _ := mooring.Strengths(after, wind); !model.Contains(was, l) {
			t.Errorf("%v: %d is %v strong, but %v: %v", after, wind, l, before, was)
		}
		rode, _ := mooring.Rides(before, wind)
		if u, _ := mooring.Rides(after, wind); rode != api.Unsure && u != rode {
			t.Errorf("%v takes back of %v whether she rides in %d", after, before, wind)
		}
		_, least, found, _ := mooring.First(before, wind)
		if _, n, is, _ := mooring.First(after, wind); is != found || n < least {
			t.Errorf("First(%v, %d): %d, %v, but of %v: %d, %v", after, wind, n, is, before, least, found)
		}
	}
	was, _ := mooring.Safe(before)
	if u, _ := mooring.Safe(after); was != api.Unsure && u != was {
		t.Errorf("%v takes back of %v whether she rides in all winds", after, before)
	}
	checkStillShifted(t, before, after)
}

// checkStillShifted checks that a shift that was good is so still.
func checkStillShifted(t *testing.T, before, after api.MooringBook) {
	t.Helper()
	anchor, to, found, _ := mooring.Shift(before)
	if !found {
		return
	}
	i, p, is, _ := mooring.Shift(after)
	if !is || i >= 0 && (anchor < 0 || feet(after, i, p) > feet(before, anchor, to)) {
		t.Errorf("Shift(%v): %d, %v, %v, but of %v: %d, %v", after, i, p, is, before, anchor, to)
	}
}

// P8.10
func TestNightsClashAlone(t *testing.T) {
	clashed := 0
	eachRandom(300, func(r *rand.Rand, b api.MooringBook) {
		b = nightsAtRandom(r, b)
		l, h := mooring.Clash(b)
		clashes := func(l []int) bool { return mustCases(t, only(b, l)) == 0 }
		if len(l) == 0 || h != api.Smooth {
			if mustCases(t, b) == 0 {
				t.Errorf("Clash(%v): %v, %v", b, l, h)
			}
			return
		}
		clashed++
		if !clashes(l) {
			t.Errorf("Clash(%v): %v, but they have a case", b, l)
		}
		for _, few := range model.Lists(len(b.Nights)) {
			if model.CompareLists(few, l) < 0 && clashes(few) {
				t.Errorf("Clash(%v): %v, but %v clash", b, l, few)
			}
		}
	})
	if clashed < 50 {
		t.Errorf("%d books clash", clashed)
	}
}

// P8.10
func TestAskedIsTested(t *testing.T) {
	asked := 0
	eachRandom(300, func(_ *rand.Rand, b api.MooringBook) {
		kind, left, h := mooring.Ask(b)
		if h != api.Smooth {
			return
		}
		if cases := mustCases(t, b); (kind < 0) != (left == cases) || left > cases {
			t.Errorf("Ask(%v): %d, %d, of %d cases", b, kind, left, cases)
		}
		if kind < 0 {
			return
		}
		asked++
		most := 0
		l, _ := mooring.Grounds(b, api.MooringKind(kind))
		for _, n := range l {
			o, h := mooring.Test(b, api.MooringKind(kind), one(n))
			if h != api.Smooth {
				t.Fatalf("Test(%v, %d, %d): %v", b, kind, n, h)
			}
			most = max(most, mustCases(t, o))
		}
		if most != left {
			t.Errorf("Ask(%v): %d, %d, but %d are left", b, kind, left, most)
		}
	})
	if asked < 100 {
		t.Errorf("Ask asked %d times", asked)
	}
}

// turnedPlace returns a place that is turned by a quarter: what was north is east.
func turnedPlace(p api.MooringPlace) api.MooringPlace { return at(p.North, -p.East) }

// turned returns a book all places and winds of which are turned by a quarter.
func turned(b api.MooringBook) api.MooringBook {
	b = clone(b)
	for i := range b.Anchors {
		b.Anchors[i].At = turnedPlace(b.Anchors[i].At)
	}
	for i := range b.Winds {
		b.Winds[i].Side = (b.Winds[i].Side + 2) % 8
	}
	return b
}

// P8.11
func TestTurned(t *testing.T) {
	shifted := 0
	eachRandom(300, func(_ *rand.Rand, b api.MooringBook) {
		o := turned(b)
		same(t, b, o, model.UpTo(len(b.Winds)))
		for wind := range b.Winds {
			anchor, spare, found, h := mooring.First(b, wind)
			if i, n, is, g := mooring.First(o, wind); i != anchor || n != spare || is != found || g != h {
				t.Errorf("First(%v, %d): %d, %d, %v, and turned %d, %d, %v", b, wind, anchor, spare, found, i, n, is)
			}
		}
		for anchor := range b.Anchors {
			for side := range 8 {
				n, _ := mooring.Windward(b, anchor, side)
				if m, _ := mooring.Windward(o, anchor, (side+2)%8); m != n {
					t.Errorf("Windward(%v, %d, %d): %d, and turned %d", b, anchor, side, n, m)
				}
			}
		}
		var open []int
		sides, _ := mooring.Open(b)
		for _, side := range sides {
			open = append(open, (side+2)%8)
		}
		slices.Sort(open)
		if l, _ := mooring.Open(o); !slices.Equal(l, open) {
			t.Errorf("Open(%v): %v, and turned %v", b, sides, l)
		}
		was, h := mooring.Clash(b)
		if l, g := mooring.Clash(o); !slices.Equal(l, was) || g != h {
			t.Errorf("Clash(%v): %v, and turned %v", b, was, l)
		}
		shifted += checkTurnedShift(t, b, o)
	})
	if shifted < 30 {
		t.Errorf("%d books have a shift", shifted)
	}
}

// checkTurnedShift checks that the same anchor is shifted by as many feet, and returns how many are. Of several places the one farthest south can be another one.
func checkTurnedShift(t *testing.T, b, o api.MooringBook) int {
	t.Helper()
	anchor, to, found, h := mooring.Shift(b)
	i, p, is, g := mooring.Shift(o)
	if i != anchor || is != found || g != h {
		t.Errorf("Shift(%v): %d, %v, %v, and turned %d, %v, %v", b, anchor, to, found, i, p, is)
	}
	if !found || anchor < 0 {
		return 0
	}
	if feet(b, anchor, to) != feet(o, i, p) || !modelDoes(o, modelCases(o), i, turnedPlace(to)) {
		t.Errorf("Shift(%v): %d, %v, and turned %v", b, anchor, to, p)
	}
	return 1
}

// same checks that as much is told of two books, the second one of which has winds in another order.
func same(t *testing.T, b, o api.MooringBook, winds []int) {
	t.Helper()
	if n, m := mustCases(t, b), mustCases(t, o); n != m {
		t.Fatalf("%v has %d cases, but %v %d", b, n, o, m)
	}
	for kind := range api.MooringKind(3) {
		was, h := mooring.Grounds(b, kind)
		if l, g := mooring.Grounds(o, kind); !slices.Equal(l, was) || g != h {
			t.Errorf("Grounds(%v, %d): %v, but of %v: %v", b, kind, was, o, l)
		}
	}
	for i, wind := range winds {
		was, h := mooring.Strengths(b, wind)
		if l, g := mooring.Strengths(o, i); !slices.Equal(l, was) || g != h {
			t.Errorf("Strengths(%v, %d): %v, but of %v: %v", b, wind, was, o, l)
		}
		rides, h := mooring.Rides(b, wind)
		if u, g := mooring.Rides(o, i); u != rides || g != h {
			t.Errorf("Rides(%v, %d): %v, but of %v: %v", b, wind, rides, o, u)
		}
	}
	safe, h := mooring.Safe(b)
	if u, g := mooring.Safe(o); u != safe || g != h {
		t.Errorf("Safe(%v): %v, but of %v: %v", b, safe, o, u)
	}
	kind, left, h := mooring.Ask(b)
	if k, n, g := mooring.Ask(o); k != kind || n != left || g != h {
		t.Errorf("Ask(%v): %d, %d, but of %v: %d, %d", b, kind, left, o, k, n)
	}
}

// shuffled returns a book in another order, and which of the old anchors and winds are where.
func shuffled(r *rand.Rand, b api.MooringBook) (o api.MooringBook, anchors, winds []int) {
	o = clone(b)
	anchors, winds = r.Perm(len(b.Anchors)), r.Perm(len(b.Winds))
	for i, anchor := range anchors {
		o.Anchors[i] = b.Anchors[anchor]
	}
	for i, wind := range winds {
		o.Winds[i] = b.Winds[wind]
	}
	for i, night := range r.Perm(len(b.Nights)) {
		n := b.Nights[night]
		o.Nights[i] = api.MooringNight{Wind: slices.Index(winds, n.Wind), Rode: n.Rode}
	}
	return o, anchors, winds
}

// P8.11
func TestOrder(t *testing.T) {
	eachRandom(300, func(r *rand.Rand, b api.MooringBook) {
		o, anchors, winds := shuffled(r, b)
		same(t, b, o, winds)
		cases := modelCases(b)
		for i, wind := range winds {
			anchor, spare, found, h := mooring.First(b, wind)
			k, n, is, g := mooring.First(o, i)
			if n != spare || is != found || g != h {
				t.Errorf("First(%v, %d): %d, %v, and in another order %d, %v", b, wind, spare, found, n, is)
			}
			// Of several anchors the first one can be another one.
			if least := modelLeast(b, cases, wind); found && (least[anchors[k]] != least[anchor]) {
				t.Errorf("First(%v, %d): %d, and in another order %d", b, wind, anchor, anchors[k])
			}
		}
		was, _ := mooring.Open(b)
		if l, _ := mooring.Open(o); !slices.Equal(l, was) {
			t.Errorf("Open(%v): %v, and in another order %v", b, was, l)
		}
		few, _ := mooring.Clash(b)
		if l, _ := mooring.Clash(o); len(l) != len(few) {
			t.Errorf("Clash(%v): %v, and in another order %v", b, few, l)
		}
		anchor, to, found, h := mooring.Shift(b)
		k, p, is, g := mooring.Shift(o)
		if (k < 0) != (anchor < 0) || is != found || g != h || found && k >= 0 && feet(b, anchor, to) != feet(o, k, p) {
			t.Errorf("Shift(%v): %d, %v, %v, and in another order %d, %v, %v", b, anchor, to, found, k, p, is)
		}
	})
}

// geared returns a book with a stronger or a longer cable.
func geared(r *rand.Rand, b api.MooringBook) api.MooringBook {
	b = clone(b)
	a := &b.Anchors[r.Intn(len(b.Anchors))]
	if by := 1 + r.Intn(4); r.Intn(2) == 0 {
		a.Strength = min(99, a.Strength+by)
	} else {
		a.Length = min(99, a.Length+by)
	}
	return b
}

// P8.12: without nights, which tell that the ground is weaker where she rode with a weaker cable, or rides with a stronger one.
func TestGear(t *testing.T) {
	more := 0
	eachRandom(400, func(r *rand.Rand, b api.MooringBook) {
		b = only(b, nil)
		o := geared(r, b)
		for wind := range b.Winds {
			was, _ := mooring.Rides(b, wind)
			u, h := mooring.Rides(o, wind)
			if h != api.Smooth || was == api.Surely && u != api.Surely || was == api.Unsure && u == api.Never {
				t.Errorf("Rides(%v, %d): %v, %v, but of %v: %v", o, wind, u, h, b, was)
			}
			if u != was {
				more++
			}
			_, least, _, _ := mooring.First(b, wind)
			if _, n, _, _ := mooring.First(o, wind); n < least {
				t.Errorf("First(%v, %d): %d, but of %v: %d", o, wind, n, b, least)
			}
		}
		checkStillShifted(t, b, o)
	})
	if more < 20 {
		t.Errorf("so many times a cable matters: %d", more)
	}
}

// P8.12: in a case, whatever nights there were.
func TestGearInACase(t *testing.T) {
	eachRandom(300, func(r *rand.Rand, b api.MooringBook) {
		o := geared(r, b)
		all := modelAll(b, 1)
		c := all[r.Intn(len(all))]
		for anchor := range b.Anchors {
			n, h := mooring.Hold(b, c, anchor)
			if m, g := mooring.Hold(o, c, anchor); m < n || h != api.Smooth || g != api.Smooth {
				t.Errorf("Hold(%v, %v, %d): %d, %v, but of %v: %d, %v", o, c, anchor, m, g, b, n, h)
			}
		}
		for wind := range b.Winds {
			was, _ := mooring.Pulls(b, c, wind)
			if l, _ := mooring.Pulls(o, c, wind); !slices.Equal(l, was) {
				t.Errorf("Pulls(%v, %v, %d): %v, but of %v: %v", o, c, wind, l, b, was)
			}
		}
	})
}
