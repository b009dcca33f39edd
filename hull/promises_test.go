package hull_test

import (
	"math/rand"
	"slices"
	"testing"

	"lagan/api"
	"lagan/hull"
	"lagan/model"
)

// Tests of P6.6 to P6.11: what holds of all books.

// P6.6, P0.4
func TestWhateverItIs(t *testing.T) {
	r := rand.New(rand.NewSource(7))
	sure, safe := 0, 0
	for range 400 {
		b, really := randomBook(r, true)
		if is, h := hull.IsCase(b, really); !is || h != api.Smooth {
			t.Fatalf("%v, %v: no case: %v", b, really, h)
		}
		checkTold(t, b, really)
		for _, out := range model.Lists(len(b.Pieces)) {
			moment := modelMoment(b, really, out)
			if x, h := hull.Moments(b, out); !model.In(x, moment) || h != api.Smooth {
				t.Errorf("%v, %v: Moments %v: %v, %v, but %d", b, really, out, x, h, moment)
			}
			rolls := modelRolls(b, really, out)
			u, _ := hull.Rolls(b, out)
			if u != api.Unsure && (u == api.Surely) != rolls {
				t.Errorf("%v, %v: Rolls %v: %v", b, really, out, u)
			}
			if u != api.Unsure {
				sure++
			}
		}
		for _, order := range modelOrders(b) {
			u, h := hull.Safe(b, order)
			if h != api.Smooth || u != api.Unsure && (u == api.Surely) != modelSafe(b, really, order) {
				t.Errorf("%v, %v: Safe %v: %v, %v", b, really, order, u, h)
			}
		}
		first, found, _ := hull.First(b)
		if found && !modelSafe(b, really, first) {
			t.Errorf("%v, %v: First: %v", b, really, first)
		}
		if found {
			safe++
		}
	}
	if sure < 500 || safe < 100 {
		t.Errorf("%d times it is sure whether she rolls, and %d books have a safe order", sure, safe)
	}
}

// checkTold checks that all is told of weights and of the ballast as it is, and that nothing right is refused.
func checkTold(t *testing.T, b api.HullBook, really api.HullCase) {
	t.Helper()
	if l, h := hull.Clash(b); len(l) > 0 || h != api.Smooth {
		t.Errorf("%v, %v: Clash: %v, %v", b, really, l, h)
	}
	if l, _ := hull.Ballasts(b); !slices.Contains(l, really.Ballast) {
		t.Errorf("%v, %v: Ballasts: %v", b, really, l)
	}
	for i, weight := range really.Weights {
		if l, _ := hull.Weights(b, i); !slices.Contains(l, weight) {
			t.Errorf("%v, %v: Weights %d: %v", b, really, i, l)
		}
		if _, h := hull.Weigh(b, i, one(weight)); h != api.Smooth {
			t.Errorf("%v, %v: Weigh %d: %v", b, really, i, h)
		}
	}
	for after := range len(b.Out) + 1 {
		x := heel(after, modelSide(modelMoment(b, really, b.Out[:after])))
		if _, h := hull.Heel(b, x); h != api.Smooth {
			t.Errorf("%v, %v: Heel %v: %v", b, really, x, h)
		}
	}
	for _, piece := range modelFree(b) {
		if _, h := hull.Lift(b, piece); h != api.Smooth && modelSafe(b, really, []int{piece}) {
			t.Errorf("%v, %v: Lift %d: %v", b, really, piece, h)
		}
	}
}

// P6.7
func TestNoOthers(t *testing.T) {
	unsure := map[string]int{}
	eachRandom(300, func(_ *rand.Rand, b api.HullBook) {
		for piece := range b.Pieces {
			weights, _ := hull.Weights(b, piece)
			for weight := 1; weight <= 12; weight++ {
				_, h := hull.Weigh(b, piece, one(weight))
				if is := slices.Contains(weights, weight); is != (h == api.Smooth) {
					t.Errorf("Weights(%v, %d): %v, but weighed %d: %v", b, piece, weights, weight, h)
				}
			}
		}
		cases := modelCases(b)
		isUnsure := func(what string, u api.Known, isSo func(c api.HullCase) bool) {
			isNot := func(c api.HullCase) bool { return !isSo(c) }
			both := slices.ContainsFunc(cases, isSo) && slices.ContainsFunc(cases, isNot)
			if len(cases) > 0 && (u == api.Unsure) != both {
				t.Errorf("%v: %s: %v", b, what, u)
			}
			if both {
				unsure[what]++
			}
		}
		for _, out := range model.Lists(len(b.Pieces)) {
			u, _ := hull.Rolls(b, out)
			isUnsure("rolls", u, func(c api.HullCase) bool { return modelRolls(b, c, out) })
		}
		for _, order := range modelOrders(b) {
			u, _ := hull.Safe(b, order)
			isUnsure("safe", u, func(c api.HullCase) bool { return modelSafe(b, c, order) })
		}
	})
	if unsure["rolls"] < 50 || unsure["safe"] < 50 {
		t.Errorf("so much was unsure: %v", unsure)
	}
}

// P6.8
func TestEachPieceTakesItsMoment(t *testing.T) {
	eachRandom(200, func(r *rand.Rand, b api.HullBook) {
		cases := modelAll(b, 1)
		c := cases[r.Intn(len(cases))]
		moment := func(out []int) int {
			n, h := hull.Moment(b, c, out)
			if h != api.Smooth {
				t.Fatalf("Moment(%v, %v, %v): %v", b, c, out, h)
			}
			return n
		}
		all := c.Ballast
		for piece, p := range b.Pieces {
			own := p.Arm * c.Weights[piece]
			all += own
			for _, out := range model.Lists(len(b.Pieces)) {
				more := slices.Sorted(slices.Values(append(slices.Clone(out), piece)))
				if !slices.Contains(out, piece) && moment(out)-moment(more) != own {
					t.Errorf("%v, %v: %d takes %d with %v out", b, c, piece, moment(out)-moment(more), out)
				}
			}
		}
		if n := moment(nil); n != all {
			t.Errorf("%v, %v: %d, want %d", b, c, n, all)
		}
	})
}

// P6.9
func TestOrdersAreAll(t *testing.T) {
	several, shored := 0, 0
	eachRandom(300, func(_ *rand.Rand, b api.HullBook) {
		many, h := hull.Orders(b)
		if h != api.Smooth {
			return
		}
		first, found, _ := hull.First(b)
		steadiest, most, _ := hull.Steadiest(b)
		if found != (many > 0) || found && isUnder(b, first) || isUnder(b, steadiest) || len(steadiest) != len(left(b)) {
			t.Fatalf("%v: %d orders, First: %v, %v, Steadiest: %v", b, many, first, found, steadiest)
		}
		cases := modelCases(b)
		safe := 0
		for _, order := range modelOrders(b) {
			if strain := modelStrain(b, cases, order); strain < most || strain == most && slices.Compare(order, steadiest) < 0 {
				t.Errorf("Steadiest(%v): %v, %d, but %v, %d", b, steadiest, most, order, strain)
			}
			if u, _ := hull.Safe(b, order); u != api.Surely {
				continue
			}
			safe++
			if slices.Compare(order, first) < 0 {
				t.Errorf("First(%v): %v, but %v", b, first, order)
			}
		}
		if safe != many {
			t.Errorf("Orders(%v): %d, but %d are safe", b, many, safe)
		}
		if many > 1 {
			several++
		}
		if checkShored(t, b, most) {
			shored++
		}
	})
	if several < 50 || shored < 20 {
		t.Errorf("%d books have several orders, and %d had none before they were shored", several, shored)
	}
}

// checkShored checks that a hull has a safe order just if she is shored to bear what Steadiest says, and tells whether she had none before. Shored she does not forget what she bore: no case is new.
func checkShored(t *testing.T, b api.HullBook, most int) bool {
	t.Helper()
	cases := modelCases(b)
	borne := 0
	for _, c := range cases {
		for many := range len(b.Out) + 1 {
			moment := modelMoment(b, c, b.Out[:many])
			borne = max(borne, moment, -moment)
		}
	}
	before, _ := hull.Orders(b)
	if most >= borne && len(modelCases(limited(b, most))) == len(cases) {
		if n, h := hull.Orders(limited(b, most)); n == 0 || h != api.Smooth {
			t.Errorf("%v shored to bear %d: %d orders, %v", b, most, n, h)
		}
	}
	if most > borne && len(modelCases(limited(b, most-1))) == len(cases) {
		if n, h := hull.Orders(limited(b, most-1)); n > 0 || h != api.Smooth {
			t.Errorf("%v shored to bear %d less 1: %d orders, %v", b, most, n, h)
		}
	}
	if (before > 0) != (most <= b.Limit) {
		t.Errorf("%v: %d orders, but %d is to be borne", b, before, most)
	}
	return before == 0
}

// news returns a book in which something is new that was seen or weighed, right or wrong.
func news(r *rand.Rand, b api.HullBook) (api.HullBook, api.Hitch) {
	if r.Intn(2) == 0 {
		return hull.Heel(b, heel(r.Intn(len(b.Out)+1), api.HullSide(r.Intn(3))))
	}
	piece := r.Intn(len(b.Pieces))
	x, _ := randomReach(r, max(1, b.Pieces[piece].Weight.Least-1+r.Intn(3)), api.MaxHullWeight)
	return hull.Weigh(b, piece, x)
}

// P6.10, P0.5
func TestNewsTakeNothingBack(t *testing.T) {
	learnt := 0
	eachRandom(200, func(r *rand.Rand, b api.HullBook) {
		for range 5 {
			o, h := news(r, b)
			if h == api.Smooth {
				learnt++
				checkLearnt(t, b, o)
			}
		}
	})
	if learnt < 200 {
		t.Errorf("%d news", learnt)
	}
}

// checkLearnt checks that the new book has nothing that the old one rules out, and keeps what was sure.
func checkLearnt(t *testing.T, before, after api.HullBook) {
	t.Helper()
	if mustCases(t, after) > mustCases(t, before) {
		t.Errorf("%v has more cases than %v", after, before)
	}
	for i := range before.Pieces {
		was, _ := hull.Weights(before, i)
		if l, _ := hull.Weights(after, i); !model.Contains(was, l) {
			t.Errorf("%v: %d weighs %v, but %v: %v", after, i, l, before, was)
		}
	}
	was, _ := hull.Ballasts(before)
	if l, _ := hull.Ballasts(after); !model.Contains(was, l) {
		t.Errorf("%v: the ballast is %v, but %v: %v", after, l, before, was)
	}
	for _, out := range model.Lists(len(before.Pieces)) {
		wide, _ := hull.Moments(before, out)
		if x, _ := hull.Moments(after, out); !model.In(wide, x.Least) || !model.In(wide, x.Most) {
			t.Errorf("%v: Moments %v: %v, but %v: %v", after, out, x, before, wide)
		}
		rolled, _ := hull.Rolls(before, out)
		if u, _ := hull.Rolls(after, out); rolled != api.Unsure && u != rolled {
			t.Errorf("%v takes back of %v whether it rolls with %v out", after, before, out)
		}
	}
	for _, order := range modelOrders(before) {
		safe, _ := hull.Safe(before, order)
		if u, _ := hull.Safe(after, order); safe != api.Unsure && u != safe {
			t.Errorf("%v takes back of %v whether %v is safe", after, before, order)
		}
	}
	next, _ := hull.Next(before)
	if l, _ := hull.Next(after); !model.Contains(l, next) {
		t.Errorf("%v: Next: %v, but %v: %v", after, l, before, next)
	}
	_, most, _ := hull.Steadiest(before)
	if _, n, _ := hull.Steadiest(after); n > most {
		t.Errorf("%v is to bear %d, but %v %d", after, n, before, most)
	}
}

// P6.10: a piece that is lifted by a safe order leaves an order that is safe.
func TestLiftedByASafeOrder(t *testing.T) {
	lifts := 0
	eachRandom(300, func(_ *rand.Rand, b api.HullBook) {
		order, found, _ := hull.First(b)
		if !found {
			return
		}
		for len(order) > 0 {
			lifts++
			o, h := hull.Lift(b, order[0])
			if next, _ := hull.Next(b); h != api.Smooth || !slices.Contains(next, order[0]) || mustCases(t, o) != mustCases(t, b) {
				t.Fatalf("Lift(%v, %d): %v, %v, Next: %v", b, order[0], o, h, next)
			}
			b, order = o, order[1:]
			if u, h := hull.Safe(b, order); u != api.Surely || h != api.Smooth {
				t.Errorf("Safe(%v, %v): %v, %v", b, order, u, h)
			}
		}
	})
	if lifts < 200 {
		t.Errorf("%d lifts", lifts)
	}
}

// P6.10
func TestHeelsClashAlone(t *testing.T) {
	clashed := 0
	eachRandom(300, func(r *rand.Rand, b api.HullBook) {
		b = heeledAtRandom(r, b)
		l, h := hull.Clash(b)
		clashes := func(l []int) bool { return mustCases(t, only(b, l)) == 0 }
		if len(l) == 0 || h != api.Smooth {
			if mustCases(t, b) == 0 {
				t.Errorf("Clash(%v): %v, %v", b, l, h)
			}
			return
		}
		clashed++
		if !clashes(l) {
			t.Errorf("Clash(%v): %v, but they have a case", b, l)
		}
		for _, few := range model.Lists(len(b.Heels)) {
			if len(few) < len(l) && clashes(few) {
				t.Errorf("Clash(%v): %v, but %v clash", b, l, few)
			}
		}
	})
	if clashed < 50 {
		t.Errorf("%d books clash", clashed)
	}
}

// P6.10
func TestAskedIsWeighed(t *testing.T) {
	asked := 0
	eachRandom(300, func(_ *rand.Rand, b api.HullBook) {
		piece, left, h := hull.Ask(b)
		if h != api.Smooth {
			return
		}
		if cases := mustCases(t, b); (piece < 0) != (left == cases) || left > cases {
			t.Errorf("Ask(%v): %d, %d, of %d cases", b, piece, left, cases)
		}
		if piece < 0 {
			return
		}
		asked++
		weights, _ := hull.Weights(b, piece)
		most := 0
		for _, weight := range weights {
			o, _ := hull.Weigh(b, piece, one(weight))
			most = max(most, mustCases(t, o))
		}
		if most != left {
			t.Errorf("Ask(%v): %d, %d, but %d are left", b, piece, left, most)
		}
	})
	if asked < 50 {
		t.Errorf("Ask asked %d times", asked)
	}
}

// P6.11
func TestTurned(t *testing.T) {
	eachRandom(300, func(_ *rand.Rand, b api.HullBook) {
		o := turned(b)
		if n, m := mustCases(t, b), mustCases(t, o); n != m {
			t.Fatalf("%v has %d cases, and turned %d", b, n, m)
		}
		for _, order := range modelOrders(b) {
			u, h := hull.Safe(b, order)
			if v, g := hull.Safe(o, order); u != v || h != g {
				t.Errorf("Safe(%v, %v): %v, %v, and turned %v, %v", b, order, u, h, v, g)
			}
		}
		first, found, _ := hull.First(b)
		if l, is, _ := hull.First(o); !slices.Equal(l, first) || is != found {
			t.Errorf("First(%v): %v, %v, and turned %v, %v", b, first, found, l, is)
		}
		steadiest, most, _ := hull.Steadiest(b)
		if l, n, _ := hull.Steadiest(o); !slices.Equal(l, steadiest) || n != most {
			t.Errorf("Steadiest(%v): %v, %d, and turned %v, %d", b, steadiest, most, l, n)
		}
		for _, out := range model.Lists(len(b.Pieces)) {
			x, _ := hull.Moments(b, out)
			if y, _ := hull.Moments(o, out); y != reach(-x.Most, -x.Least) {
				t.Errorf("Moments(%v, %v): %v, and turned %v", b, out, x, y)
			}
		}
	})
}
