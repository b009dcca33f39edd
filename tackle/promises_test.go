package tackle_test

import (
	"math/rand"
	"slices"
	"testing"

	"lagan/api"
	"lagan/model"
	"lagan/tackle"
)

// Tests of P7.6 to P7.12: what holds of all books.

// P7.6, P0.4
func TestHoweverWornItIs(t *testing.T) {
	r := rand.New(rand.NewSource(8))
	sure, shared := 0, 0
	for range 400 {
		b, really := randomBook(r, true)
		if is, h := tackle.IsCase(b, really); !is || h != api.Smooth {
			t.Fatalf("%v, %v: no case: %v", b, really, h)
		}
		checkTold(t, r, b, really)
		for gear := range b.Gears {
			for piece, weight := range really.Weights {
				u, h := tackle.May(b, gear, piece)
				if h != api.Smooth || u != api.Unsure && (u == api.Surely) != modelLifts(b, really.Bears, gear, weight) {
					t.Errorf("%v, %v: May %d, %d: %v, %v", b, really, gear, piece, u, h)
				}
				if u != api.Unsure {
					sure++
				}
			}
			if most, h := tackle.Most(b, gear); h != api.Smooth || !modelLifts(b, really.Bears, gear, most) {
				t.Errorf("%v, %v: Most %d: %d, %v", b, really, gear, most, h)
			}
			for load := 1; load <= 99; load += 1 + r.Intn(5) {
				if l, h := tackle.Weak(b, gear, load); h != api.Smooth || !model.Contains(l, modelGives(b, really.Bears, gear, load)) {
					t.Errorf("%v, %v: Weak %d, %d: %v, %v", b, really, gear, load, l, h)
				}
			}
		}
		gears, found, _ := tackle.Fewest(b)
		own, can, _ := tackle.Share(b)
		for piece, weight := range really.Weights {
			lifts := func(gear int) bool { return modelLifts(b, really.Bears, gear, weight) }
			if found && !slices.ContainsFunc(gears, lifts) || can && !lifts(own[piece]) {
				t.Errorf("%v, %v: Fewest: %v, Share: %v", b, really, gears, own)
			}
		}
		if len(own) > 1 {
			shared++
		}
	}
	if sure < 500 || shared < 30 {
		t.Errorf("%d times it is sure whether a gear lifts, and %d books have a share of several pieces", sure, shared)
	}
}

// checkTold checks that all is told of parts and weights as it is, and that nothing right is refused.
func checkTold(t *testing.T, r *rand.Rand, b api.TackleBook, really api.TackleCase) {
	t.Helper()
	if l, h := tackle.Clash(b); len(l) > 0 || h != api.Smooth {
		t.Errorf("%v, %v: Clash: %v, %v", b, really, l, h)
	}
	for part, bears := range really.Bears {
		if l, _ := tackle.Bears(b, part); !slices.Contains(l, bears) {
			t.Errorf("%v, %v: Bears %d: %v", b, really, part, l)
		}
		if _, h := tackle.Know(b, part, one(bears)); h != api.Smooth {
			t.Errorf("%v, %v: Know %d: %v", b, really, part, h)
		}
	}
	for piece, weight := range really.Weights {
		if l, _ := tackle.Weights(b, piece); !slices.Contains(l, weight) {
			t.Errorf("%v, %v: Weights %d: %v", b, really, piece, l)
		}
		if _, h := tackle.Weigh(b, piece, one(weight)); h != api.Smooth {
			t.Errorf("%v, %v: Weigh %d: %v", b, really, piece, h)
		}
		for gear := range b.Gears {
			want := modelLifts(b, really.Bears, gear, weight)
			if is, h := tackle.Lifts(b, really, gear, piece); is != want || h != api.Smooth {
				t.Errorf("%v, %v: Lifts %d, %d: %v, %v", b, really, gear, piece, is, h)
			}
		}
	}
	x := gave(r.Intn(len(b.Gears)), 1+r.Intn(25))
	x.Held = modelLifts(b, really.Bears, x.Gear, x.Load)
	if _, h := tackle.Try(b, x); (h != api.Smooth) != (len(b.Tests) == 3) {
		t.Errorf("%v, %v: Try %v: %v", b, really, x, h)
	}
}

// P7.7
func TestNoOthers(t *testing.T) {
	several := 0
	eachRandom(300, func(_ *rand.Rand, b api.TackleBook) {
		for part, p := range b.Parts {
			l, _ := tackle.Bears(b, part)
			for n := max(0, p.Bears.Least-2); n <= p.Bears.Most+2; n++ {
				_, h := tackle.Know(b, part, one(n))
				if is := slices.Contains(l, n); is != (h == api.Smooth) {
					t.Errorf("Bears(%v, %d): %v, but known as %d: %v", b, part, l, n, h)
				}
			}
			if len(l) > 1 {
				several++
			}
		}
		for piece, p := range b.Pieces {
			l, _ := tackle.Weights(b, piece)
			for n := max(1, p.Weight.Least-2); n <= p.Weight.Most+2; n++ {
				_, h := tackle.Weigh(b, piece, one(n))
				if is := slices.Contains(l, n); is != (h == api.Smooth) {
					t.Errorf("Weights(%v, %d): %v, but weighed as %d: %v", b, piece, l, n, h)
				}
			}
		}
	})
	if several < 100 {
		t.Errorf("%d parts bear several numbers", several)
	}
}

// P7.7: what is Unsure is so in a case and is not in another one.
func TestUnsureIsBoth(t *testing.T) {
	unsures := 0
	eachRandom(300, func(_ *rand.Rand, b api.TackleBook) {
		cases := modelCases(b)
		if len(cases) == 0 {
			return
		}
		for gear := range b.Gears {
			for piece := range b.Pieces {
				yes := 0
				for _, c := range cases {
					if is, _ := tackle.Lifts(b, c, gear, piece); is {
						yes++
					}
				}
				u, _ := tackle.May(b, gear, piece)
				if (u == api.Unsure) != (yes > 0 && yes < len(cases)) {
					t.Errorf("May(%v, %d, %d): %v, but it is so in %d of %d cases", b, gear, piece, u, yes, len(cases))
				}
				if u == api.Unsure {
					unsures++
				}
			}
		}
	})
	if unsures < 50 {
		t.Errorf("so much was unsure: %d", unsures)
	}
}

// mustPulls returns the pulls on a gear.
func mustPulls(t *testing.T, b api.TackleBook, gear, load int) []int {
	t.Helper()
	l, h := tackle.Pulls(b, gear, load)
	if h != api.Smooth || len(l) != len(b.Gears[gear])+1 || l[0] != load {
		t.Fatalf("Pulls(%v, %d, %d): %v, %v", b, gear, load, l, h)
	}
	return l
}

// P7.8
func TestPullsGetLess(t *testing.T) {
	eachRandom(200, func(_ *rand.Rand, b api.TackleBook) {
		for gear := range b.Gears {
			before := make([]int, len(b.Gears[gear])+1)
			for load := 1; load <= 99; load++ {
				l := mustPulls(t, b, gear, load)
				for place, pull := range l {
					if pull < before[place] || place > 0 && pull > l[place-1] {
						t.Errorf("Pulls(%v, %d, %d): %v, and with less: %v", b, gear, load, l, before)
					}
				}
				before = l
			}
		}
	})
}

// P7.8: a gear without sheaves pulls the same everywhere.
func TestPullsWithoutSheaves(t *testing.T) {
	eachRandom(100, func(_ *rand.Rand, b api.TackleBook) {
		for part := range b.Parts {
			b = sheaved(b, part, 0)
		}
		for gear := range b.Gears {
			for load := 1; load <= 99; load++ {
				l := mustPulls(t, b, gear, load)
				if len(slices.Compact(slices.Clone(l))) != 1 {
					t.Errorf("Pulls(%v, %d, %d): %v", b, gear, load, l)
				}
			}
		}
	})
}

// P7.8: two gears, one behind the other, pull as one.
func TestPullsOfTwoGears(t *testing.T) {
	eachRandom(200, func(r *rand.Rand, b api.TackleBook) {
		order := r.Perm(len(b.Parts))
		cut := r.Intn(len(order))
		if cut == 0 {
			return
		}
		b = geared(b, order, order[:cut], order[cut:])
		for load := 1; load <= 99; load++ {
			ahead := mustPulls(t, b, 1, load)
			behind := mustPulls(t, b, 2, ahead[cut])
			if l := mustPulls(t, b, 0, load); !slices.Equal(l, slices.Concat(ahead[:cut], behind)) {
				t.Errorf("%v, %d: %v, but apart %v, %v", b, load, l, ahead, behind)
			}
		}
	})
}

// loaded returns a book in which the first piece has a weight.
func loaded(b api.TackleBook, weight int) api.TackleBook { return weighed(b, 0, one(weight)) }

// P7.9: a gear lifts its Most and all that is less, and not surely more.
func TestMostIsMost(t *testing.T) {
	eachRandom(200, func(_ *rand.Rand, b api.TackleBook) {
		for gear := range b.Gears {
			most, h := tackle.Most(b, gear)
			if h != api.Smooth {
				continue
			}
			for load := 1; load <= 99; load++ {
				u, _ := tackle.May(loaded(b, load), gear, 0)
				l, _ := tackle.Weak(b, gear, load)
				if is := load <= most; is != (u == api.Surely) || is != (len(l) == 0) {
					t.Errorf("Most(%v, %d): %d, but of %d: %v, %v", b, gear, most, load, u, l)
				}
			}
		}
	})
}

// surelyLift tells whether each piece surely is lifted by the same one of some gears.
func surelyLift(b api.TackleBook, gears []int) bool {
	for piece := range b.Pieces {
		isSure := func(gear int) bool {
			u, _ := tackle.May(b, gear, piece)
			return u == api.Surely
		}
		if !slices.ContainsFunc(gears, isSure) {
			return false
		}
	}
	return true
}

// P7.9
func TestGearsAreFewest(t *testing.T) {
	found, none := 0, 0
	eachRandom(300, func(_ *rand.Rand, b api.TackleBook) {
		few, is, h := tackle.Fewest(b)
		if h != api.Smooth {
			return
		}
		if is {
			found++
		} else {
			none++
		}
		if is != surelyLift(b, model.UpTo(len(b.Gears))) || is && !surelyLift(b, few) {
			t.Errorf("Fewest(%v): %v, %v", b, few, is)
		}
		for _, l := range model.Lists(len(b.Gears)) {
			if is && model.CompareLists(l, few) < 0 && surelyLift(b, l) {
				t.Errorf("Fewest(%v): %v, but %v", b, few, l)
			}
		}
		own, can, _ := tackle.Share(b)
		if !can {
			return
		}
		if sorted := slices.Sorted(slices.Values(own)); len(slices.Compact(sorted)) != len(b.Pieces) || !is {
			t.Errorf("Share(%v): %v, but Fewest: %v, %v", b, own, few, is)
		}
		for piece, gear := range own {
			if u, _ := tackle.May(b, gear, piece); u != api.Surely {
				t.Errorf("Share(%v): %v, but %d lifts %d: %v", b, own, gear, piece, u)
			}
		}
	})
	if found < 50 || none < 50 {
		t.Errorf("%d books have gears, %d have none", found, none)
	}
}

// P7.9: renewed parts of Renew do, fewer do not.
func TestRenewedPartsDo(t *testing.T) {
	renewals := map[int]int{}
	eachRandom(300, func(_ *rand.Rand, b api.TackleBook) {
		parts, found, h := tackle.Renew(b)
		if h != api.Smooth {
			return
		}
		// Tests tell what the others bear, and nothing of new parts: all that can be so is looked at without them.
		cases := modelCases(b)
		does := func(parts []int) bool {
			return modelLifted(b, renewed(cases, parts), model.UpTo(len(b.Gears)))
		}
		if found {
			renewals[len(parts)]++
		}
		if found != does(model.UpTo(len(b.Parts))) || found && !does(parts) {
			t.Errorf("Renew(%v): %v, %v", b, parts, found)
		}
		for _, l := range model.Lists(len(b.Parts)) {
			if found && model.CompareLists(l, parts) < 0 && does(l) {
				t.Errorf("Renew(%v): %v, but %v", b, parts, l)
			}
		}
		bare := only(b, nil)
		parts, found, _ = tackle.Renew(bare)
		for _, part := range parts {
			bare = borne(bare, part, one(99))
		}
		if found && !surelyLift(bare, model.UpTo(len(b.Gears))) {
			t.Errorf("Renew(%v): %v", b, parts)
		}
	})
	if renewals[0] < 30 || renewals[1] < 30 || renewals[2] < 5 {
		t.Errorf("so many books by how many parts are to be new: %v", renewals)
	}
}

// news returns a book in which something is new that was tried, known or weighed, right or wrong.
func news(r *rand.Rand, b api.TackleBook) (api.TackleBook, api.Hitch) {
	part, piece := r.Intn(len(b.Parts)), r.Intn(len(b.Pieces))
	switch r.Intn(3) {
	case 0:
		return tackle.Try(b, api.TackleTest{Gear: r.Intn(len(b.Gears)), Load: max(1, b.Parts[part].Bears.Least-1+r.Intn(4)), Held: r.Intn(2) == 0})
	case 1:
		x, _ := randomReach(r, max(0, b.Parts[part].Bears.Least-1+r.Intn(3)))
		return tackle.Know(b, part, x)
	default:
		x, _ := randomReach(r, max(1, b.Pieces[piece].Weight.Least-1+r.Intn(3)))
		return tackle.Weigh(b, piece, x)
	}
}

// P7.10, P0.5
func TestNewsTakeNothingBack(t *testing.T) {
	learnt := 0
	eachRandom(300, func(r *rand.Rand, b api.TackleBook) {
		for range 5 {
			o, h := news(r, b)
			if h == api.Smooth {
				learnt++
				checkLearnt(t, b, o)
			}
		}
	})
	if learnt < 300 {
		t.Errorf("%d news", learnt)
	}
}

// checkLearnt checks that the new book has nothing that the old one rules out, and keeps what was sure.
func checkLearnt(t *testing.T, before, after api.TackleBook) {
	t.Helper()
	if mustCases(t, after) > mustCases(t, before) {
		t.Errorf("%v has more cases than %v", after, before)
	}
	for part := range before.Parts {
		was, _ := tackle.Bears(before, part)
		if l, _ := tackle.Bears(after, part); !model.Contains(was, l) {
			t.Errorf("%v: %d bears %v, but %v: %v", after, part, l, before, was)
		}
	}
	for piece := range before.Pieces {
		was, _ := tackle.Weights(before, piece)
		if l, _ := tackle.Weights(after, piece); !model.Contains(was, l) {
			t.Errorf("%v: %d weighs %v, but %v: %v", after, piece, l, before, was)
		}
	}
	for gear := range before.Gears {
		for piece := range before.Pieces {
			was, _ := tackle.May(before, gear, piece)
			if u, _ := tackle.May(after, gear, piece); was != api.Unsure && u != was {
				t.Errorf("%v takes back of %v whether %d lifts %d", after, before, gear, piece)
			}
		}
		most, _ := tackle.Most(before, gear)
		if n, _ := tackle.Most(after, gear); n < most {
			t.Errorf("%v: Most %d: %d, but %v: %d", after, gear, n, before, most)
		}
		for load := 1; load <= 30; load += 3 {
			was, _ := tackle.Weak(before, gear, load)
			if l, _ := tackle.Weak(after, gear, load); !model.Contains(was, l) {
				t.Errorf("%v: Weak %d, %d: %v, but %v: %v", after, gear, load, l, before, was)
			}
		}
	}
	checkStillLifted(t, before, after)
}

// checkStillLifted checks that whatever was good is so still: gears of Fewest and of Share, and what is renewed.
func checkStillLifted(t *testing.T, before, after api.TackleBook) {
	t.Helper()
	few, found, _ := tackle.Fewest(before)
	if l, is, _ := tackle.Fewest(after); found && (!is || len(l) > len(few) || !surelyLift(after, few)) {
		t.Errorf("Fewest(%v): %v, %v, but of %v: %v", after, l, is, before, few)
	}
	_, found, _ = tackle.Share(before)
	if l, is, _ := tackle.Share(after); found && !is {
		t.Errorf("Share(%v): %v, %v", after, l, is)
	}
	parts, found, _ := tackle.Renew(before)
	if l, is, _ := tackle.Renew(after); found && (!is || len(l) > len(parts)) {
		t.Errorf("Renew(%v): %v, %v, but of %v: %v", after, l, is, before, parts)
	}
}

// P7.10
func TestTestsClashAlone(t *testing.T) {
	clashed := 0
	eachRandom(300, func(r *rand.Rand, b api.TackleBook) {
		b = triedAtRandom(r, b)
		l, h := tackle.Clash(b)
		clashes := func(l []int) bool { return mustCases(t, only(b, l)) == 0 }
		if len(l) == 0 || h != api.Smooth {
			if mustCases(t, b) == 0 {
				t.Errorf("Clash(%v): %v, %v", b, l, h)
			}
			return
		}
		clashed++
		if !clashes(l) {
			t.Errorf("Clash(%v): %v, but they have a case", b, l)
		}
		for _, few := range model.Lists(len(b.Tests)) {
			if model.CompareLists(few, l) < 0 && clashes(few) {
				t.Errorf("Clash(%v): %v, but %v clash", b, l, few)
			}
		}
	})
	if clashed < 50 {
		t.Errorf("%d books clash", clashed)
	}
}

// P7.10
func TestAskedIsTried(t *testing.T) {
	asked := 0
	eachRandom(300, func(_ *rand.Rand, b api.TackleBook) {
		gear, load, left, h := tackle.Ask(b)
		if h != api.Smooth {
			return
		}
		if cases := mustCases(t, b); (gear < 0) != (left == cases) || (gear < 0) != (load == 0) || left > cases {
			t.Errorf("Ask(%v): %d, %d, %d, of %d cases", b, gear, load, left, cases)
		}
		if gear < 0 || len(b.Tests) == api.MaxTackleTests {
			return
		}
		asked++
		most := 0
		for _, x := range []api.TackleTest{held(gear, load), gave(gear, load)} {
			o, h := tackle.Try(b, x)
			if h != api.Smooth {
				t.Fatalf("Try(%v, %v): %v", b, x, h)
			}
			most = max(most, mustCases(t, o))
		}
		if most != left {
			t.Errorf("Ask(%v): %d, %d, %d, but %d are left", b, gear, load, left, most)
		}
	})
	if asked < 50 {
		t.Errorf("Ask asked %d times", asked)
	}
}

// stronger returns a book with a stronger winch, stronger parts, or lighter pieces.
func stronger(r *rand.Rand, b api.TackleBook) api.TackleBook {
	part, piece := r.Intn(len(b.Parts)), r.Intn(len(b.Pieces))
	bears, weight := b.Parts[part].Bears, b.Pieces[piece].Weight
	switch by := 1 + r.Intn(3); r.Intn(3) {
	case 0:
		return winched(b, b.Winch+by)
	case 1:
		return borne(b, part, reach(bears.Least+by, bears.Most+by))
	default:
		return weighed(b, piece, reach(max(1, weight.Least-by), max(1, weight.Most-by)))
	}
}

// P7.11: without tests, which tell that what is stronger in one way is weaker in another one.
func TestStronger(t *testing.T) {
	more := 0
	eachRandom(300, func(r *rand.Rand, b api.TackleBook) {
		b = only(b, nil)
		o := stronger(r, b)
		for gear := range b.Gears {
			was, _ := tackle.Most(b, gear)
			most, h := tackle.Most(o, gear)
			if most < was || h != api.Smooth {
				t.Errorf("Most(%v, %d): %d, %v, but of %v: %d", o, gear, most, h, b, was)
			}
			if most > was {
				more++
			}
			for piece := range b.Pieces {
				was, _ := tackle.May(b, gear, piece)
				if u, _ := tackle.May(o, gear, piece); was == api.Surely && u != api.Surely || was == api.Unsure && u == api.Never {
					t.Errorf("May(%v, %d, %d): %v, but of %v: %v", o, gear, piece, u, b, was)
				}
			}
		}
		checkStillLifted(t, b, o)
	})
	if more < 30 {
		t.Errorf("%d gears lift more", more)
	}
}

// P7.11: in a case, whatever was tried.
func TestStrongerInACase(t *testing.T) {
	eachRandom(300, func(r *rand.Rand, b api.TackleBook) {
		all := modelAll(b, 1)
		c := all[r.Intn(len(all))]
		strong := tackleCase(slices.Clone(c.Bears), c.Weights...)
		strong.Bears[r.Intn(len(strong.Bears))]++
		light := tackleCase(c.Bears, slices.Clone(c.Weights)...)
		piece := r.Intn(len(light.Weights))
		light.Weights[piece] = max(1, light.Weights[piece]-1-r.Intn(3))
		for gear := range b.Gears {
			for piece := range b.Pieces {
				was, _ := tackle.Lifts(b, c, gear, piece)
				winch, h := tackle.Lifts(winched(b, b.Winch+1), c, gear, piece)
				parts, g := tackle.Lifts(b, strong, gear, piece)
				pieces, k := tackle.Lifts(b, light, gear, piece)
				if was && !(winch && parts && pieces) || h != api.Smooth || g != api.Smooth || k != api.Smooth {
					t.Errorf("%v, %v: %d lifts %d, but not stronger: %v, %v, %v", b, c, gear, piece, winch, parts, pieces)
				}
			}
		}
	})
}

// P7.12
func TestOrderOfPiecesAndTests(t *testing.T) {
	eachRandom(300, func(r *rand.Rand, b api.TackleBook) {
		o := clone(b)
		order := r.Perm(len(b.Pieces))
		for i, piece := range order {
			o.Pieces[i] = b.Pieces[piece]
		}
		for i, x := range r.Perm(len(b.Tests)) {
			o.Tests[i] = b.Tests[x]
		}
		if n, m := mustCases(t, b), mustCases(t, o); n != m {
			t.Fatalf("%v has %d cases, and in another order %d", b, n, m)
		}
		for part := range b.Parts {
			was, h := tackle.Bears(b, part)
			if l, g := tackle.Bears(o, part); !slices.Equal(l, was) || g != h {
				t.Errorf("Bears(%v, %d): %v, and in another order %v", b, part, was, l)
			}
		}
		for i, piece := range order {
			was, h := tackle.Weights(b, piece)
			if l, g := tackle.Weights(o, i); !slices.Equal(l, was) || g != h {
				t.Errorf("Weights(%v, %d): %v, and in another order %v", b, piece, was, l)
			}
			for gear := range b.Gears {
				u, h := tackle.May(b, gear, piece)
				if v, g := tackle.May(o, gear, i); u != v || h != g {
					t.Errorf("May(%v, %d, %d): %v, and in another order %v", b, gear, piece, u, v)
				}
			}
		}
		checkOrder(t, b, o)
	})
}

// checkOrder checks that as much is told of gears, parts and tests in another order of pieces and tests. Of several shares, and of several clashes, the least one can be another one.
func checkOrder(t *testing.T, b, o api.TackleBook) {
	t.Helper()
	for gear := range b.Gears {
		n, h := tackle.Most(b, gear)
		if m, g := tackle.Most(o, gear); n != m || h != g {
			t.Errorf("Most(%v, %d): %d, and in another order %d", b, gear, n, m)
		}
		was, h := tackle.Weak(b, gear, 20)
		if l, g := tackle.Weak(o, gear, 20); !slices.Equal(l, was) || h != g {
			t.Errorf("Weak(%v, %d): %v, and in another order %v", b, gear, was, l)
		}
	}
	for what, tell := range map[string]func(b api.TackleBook) ([]int, bool, api.Hitch){"few": tackle.Fewest, "renew": tackle.Renew} {
		was, found, h := tell(b)
		if l, is, g := tell(o); !slices.Equal(l, was) || is != found || g != h {
			t.Errorf("%s: %v: %v, %v, and in another order %v, %v", what, b, was, found, l, is)
		}
	}
	own, found, _ := tackle.Share(b)
	if l, is, _ := tackle.Share(o); len(l) != len(own) || is != found {
		t.Errorf("Share(%v): %v, %v, and in another order %v, %v", b, own, found, l, is)
	}
	few, _ := tackle.Clash(b)
	if l, _ := tackle.Clash(o); len(l) != len(few) {
		t.Errorf("Clash(%v): %v, and in another order %v", b, few, l)
	}
	gear, load, left, h := tackle.Ask(b)
	if g, l, n, k := tackle.Ask(o); g != gear || l != load || n != left || k != h {
		t.Errorf("Ask(%v): %d, %d, %d, and in another order %d, %d, %d", b, gear, load, left, g, l, n)
	}
}
