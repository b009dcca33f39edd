package stint_test

import (
	"math/rand"
	"slices"
	"testing"

	"lagan/api"
	"lagan/model"
	"lagan/stint"
)

// Tests of P5.6 to P5.12: what holds of all books.

// finders are the functions that find a rota.
func finders() []func(api.StintBook) ([][]int, bool, api.Hitch) {
	return []func(api.StintBook) ([][]int, bool, api.Hitch){stint.First, func(b api.StintBook) ([][]int, bool, api.Hitch) {
		x, _, found, h := stint.Fair(b)
		return x, found, h
	}}
}

// P5.6, P0.4
func TestHoweverDeepItIs(t *testing.T) {
	r := rand.New(rand.NewSource(6))
	rotas := 0
	for range 300 {
		b, really := randomBook(r, true)
		if is, h := stint.IsCase(b, really); !is || h != api.Smooth {
			t.Fatalf("%v, %v: no case: %v", b, really, h)
		}
		checkDepthsTold(t, b, really)
		for _, find := range finders() {
			x, found, h := find(b)
			if h != api.Smooth || found && !modelGood(b, really, x) {
				t.Errorf("%v, %v: %v, %v", b, really, x, h)
			}
			if found {
				rotas++
			}
		}
		for man := range b.Men {
			for dive := range b.Dives {
				u, _ := stint.May(b, man, dive)
				if may := modelMay(b, really, man, dive); u != api.Unsure && (u == api.Surely) != may {
					t.Errorf("%v, %v: May %d %d: %v", b, really, man, dive, u)
				}
			}
		}
	}
	if rotas < 200 {
		t.Errorf("%d rotas", rotas)
	}
}

// checkDepthsTold checks that all is told of the depths as it is, and that no right sounding is refused.
func checkDepthsTold(t *testing.T, b api.StintBook, really []int) {
	t.Helper()
	if l, h := stint.Clash(b); len(l) > 0 || h != api.Smooth {
		t.Errorf("%v, %v: Clash: %v, %v", b, really, l, h)
	}
	for i, depth := range really {
		if l, _ := stint.Depths(b, i); !slices.Contains(l, depth) {
			t.Errorf("%v, %v: Depths %d: %v", b, really, i, l)
		}
		stay, _ := stint.Stay(b, depth)
		if x, _ := stint.Stays(b, i); !model.In(x, stay) {
			t.Errorf("%v, %v: Stays %d: %v, but %d", b, really, i, x, stay)
		}
		for line := range api.MaxStintDepth + 1 {
			s := api.StintSounding{Place: i, Line: line, Bottom: depth <= line}
			if _, h := stint.Sound(b, s); len(b.Soundings) < api.MaxStintSoundings && h != api.Smooth {
				t.Errorf("%v, %v: Sound %v: %v", b, really, s, h)
			}
		}
	}
}

// P5.7
func TestNoOthers(t *testing.T) {
	unsure := 0
	eachRandom(300, func(_ *rand.Rand, b api.StintBook) {
		if len(b.Soundings) > 1 {
			b.Soundings = b.Soundings[:1]
		}
		for place := range b.Places {
			depths, _ := stint.Depths(b, place)
			for depth := 1; depth <= api.MaxStintDepth; depth++ {
				is := mustCases(t, sounded(b, touched(place, depth), free(place, depth-1))) > 0
				if is != slices.Contains(depths, depth) {
					t.Errorf("Depths(%v, %d): %v, but sounded %d: %v", b, place, depths, depth, is)
				}
			}
		}
		if mustCases(t, b) == 0 {
			return
		}
		cases := modelCases(b)
		for man := range b.Men {
			for dive := range b.Dives {
				is := func(depths []int) bool { return modelMay(b, depths, man, dive) }
				both := slices.ContainsFunc(cases, is) && slices.ContainsFunc(cases, func(depths []int) bool { return !is(depths) })
				if u, h := stint.May(b, man, dive); (u == api.Unsure) != both || h != api.Smooth {
					t.Errorf("May(%v, %d, %d): %v, %v", b, man, dive, u, h)
				}
				if both {
					unsure++
				}
			}
		}
	})
	if unsure < 50 {
		t.Errorf("%d were unsure", unsure)
	}
}

// P5.8
func TestStaysGetShorter(t *testing.T) {
	eachRandom(300, func(_ *rand.Rand, b api.StintBook) {
		last := api.MaxStintStay
		for depth := 1; depth <= api.MaxStintDepth; depth++ {
			stay, h := stint.Stay(b, depth)
			if stay > last || h != api.Smooth {
				t.Errorf("Stay(%v, %d): %d, %v, but %d above", b, depth, stay, h, last)
			}
			last = stay
		}
	})
}

// P5.9
func TestRotasAreAll(t *testing.T) {
	several := 0
	eachRandom(300, func(_ *rand.Rand, b api.StintBook) {
		many, h := stint.Rotas(b)
		if h != api.Smooth {
			return
		}
		first, found, _ := stint.First(b)
		fair, ticks, alike, _ := stint.Fair(b)
		if found != (many > 0) || alike != found || found && ticks != modelBusiest(b, fair) {
			t.Fatalf("%v: %d rotas, First: %v, Fair: %v, %d", b, many, first, fair, ticks)
		}
		good := 0
		for _, x := range modelLists(b) {
			if u, _ := stint.Good(b, x); u != api.Surely {
				continue
			}
			good++
			if busiest := modelBusiest(b, x); compareRotas(x, first) < 0 || busiest < ticks || busiest == ticks && compareRotas(x, fair) < 0 {
				t.Errorf("%v: First: %v, Fair: %v, %d, but %v", b, first, fair, ticks, x)
			}
		}
		if good != many {
			t.Errorf("Rotas(%v): %d, but %d are good", b, many, good)
		}
		if many > 1 {
			several++
		}
	})
	if several < 50 {
		t.Errorf("%d books have several rotas", several)
	}
}

// P5.9
func TestCrewAndDropAreFewest(t *testing.T) {
	crews, drops := map[int]int{}, map[int]int{}
	eachRandom(300, func(_ *rand.Rand, b api.StintBook) {
		men, found, h := stint.Crew(b)
		drop, g := stint.Drop(b)
		if h != g {
			t.Fatalf("%v: %v, %v", b, h, g)
		}
		if h != api.Smooth {
			return
		}
		crews[len(men)]++
		drops[len(drop)]++
		if found != (len(drop) == 0) || found && !hasRota(crewed(b, men)) || !hasRota(dropped(b, drop)) {
			t.Errorf("%v: Crew: %v, %v, Drop: %v", b, men, found, drop)
		}
		for _, l := range model.Lists(len(b.Men)) {
			if (!found || len(l) < len(men)) && hasRota(crewed(b, l)) {
				t.Errorf("Crew(%v): %v, but %v", b, men, l)
			}
		}
		for _, l := range model.Lists(len(b.Dives)) {
			if len(l) < len(drop) && hasRota(dropped(b, l)) {
				t.Errorf("Drop(%v): %v, but %v", b, drop, l)
			}
		}
	})
	if crews[1] < 10 || crews[2] < 10 || drops[0] < 10 || drops[1] < 10 || drops[2] < 10 {
		t.Errorf("so many crews, and so many drops: %v, %v", crews, drops)
	}
}

// hasRota tells whether there is a rota for a book that may have too few men, or too few dives.
func hasRota(b api.StintBook) bool {
	if len(b.Dives) == 0 {
		return true
	}
	many, _ := stint.Rotas(b)
	return many > 0
}

// P5.10, P0.5
func TestSoundingsAreNews(t *testing.T) {
	learnt := 0
	eachRandom(200, func(r *rand.Rand, b api.StintBook) {
		for range 10 {
			place := r.Intn(len(b.Places))
			line := max(0, min(api.MaxStintDepth, b.Places[place].Least-1+r.Intn(4)))
			o, h := stint.Sound(b, api.StintSounding{Place: place, Line: line, Bottom: r.Intn(2) == 0})
			if h == api.Smooth {
				learnt++
				checkLearnt(t, r, b, o)
			}
		}
	})
	if learnt < 200 {
		t.Errorf("%d news", learnt)
	}
}

// checkLearnt checks that the new book has nothing that the old one rules out, and keeps what was sure.
func checkLearnt(t *testing.T, r *rand.Rand, before, after api.StintBook) {
	t.Helper()
	if mustCases(t, after) > mustCases(t, before) {
		t.Errorf("%v has more cases than %v", after, before)
	}
	for i := range before.Places {
		was, _ := stint.Depths(before, i)
		if l, _ := stint.Depths(after, i); !model.Contains(was, l) {
			t.Errorf("%v: %d is %v deep, but %v: %v", after, i, l, before, was)
		}
		stays, _ := stint.Stays(before, i)
		if x, _ := stint.Stays(after, i); !model.In(stays, x.Least) || !model.In(stays, x.Most) {
			t.Errorf("%v: Stays %d: %v, but %v: %v", after, i, x, before, stays)
		}
	}
	for man := range before.Men {
		for dive := range before.Dives {
			was, _ := stint.May(before, man, dive)
			if u, _ := stint.May(after, man, dive); was != api.Unsure && u != was {
				t.Errorf("%v takes back of %v whether %d may do %d", after, before, man, dive)
			}
		}
	}
	if x, ok := randomRota(r, before); ok {
		was, _ := stint.Good(before, x)
		if u, _ := stint.Good(after, x); was != api.Unsure && u != was {
			t.Errorf("%v takes back of %v whether %v is good", after, before, x)
		}
	}
	checkNoFewerRotas(t, before, after)
}

// checkNoFewerRotas checks that all rotas of one book are rotas of another one, too.
func checkNoFewerRotas(t *testing.T, few, many api.StintBook) {
	t.Helper()
	n, h := stint.Rotas(few)
	if m, g := stint.Rotas(many); m < n || h != g {
		t.Errorf("%v has %d rotas, %v, but %v: %d, %v", few, n, h, many, m, g)
	}
	for _, find := range finders() {
		x, found, _ := find(few)
		if u, _ := stint.Good(many, x); found && u != api.Surely {
			t.Errorf("the rota %v of %v is not good in %v", x, few, many)
		}
	}
}

// P5.10
func TestSoundingsClashAlone(t *testing.T) {
	eachRandom(300, func(r *rand.Rand, b api.StintBook) {
		b = soundedAtRandom(r, b)
		l, h := stint.Clash(b)
		clashes := func(l []int) bool { return mustCases(t, only(b, l)) == 0 }
		if len(l) == 0 || h != api.Smooth {
			if mustCases(t, b) == 0 {
				t.Errorf("Clash(%v): %v, %v", b, l, h)
			}
			return
		}
		if !clashes(l) {
			t.Errorf("Clash(%v): %v, but they have a case", b, l)
		}
		for _, few := range model.Lists(len(b.Soundings)) {
			if len(few) < len(l) && clashes(few) {
				t.Errorf("Clash(%v): %v, but %v clash", b, l, few)
			}
		}
	})
}

// P5.10
func TestAskedIsSounded(t *testing.T) {
	asked := 0
	eachRandom(300, func(_ *rand.Rand, b api.StintBook) {
		place, line, left, h := stint.Ask(b)
		if h != api.Smooth || len(b.Soundings) == api.MaxStintSoundings {
			return
		}
		if cases := mustCases(t, b); (place < 0) != (left == cases) || left > cases || (place < 0) != (line < 0) {
			t.Errorf("Ask(%v): %d, %d, %d, of %d cases", b, place, line, left, cases)
		}
		if place < 0 {
			return
		}
		asked++
		most := 0
		for _, s := range []api.StintSounding{touched(place, line), free(place, line)} {
			if o, h := stint.Sound(b, s); h == api.Smooth {
				most = max(most, mustCases(t, o))
			}
		}
		if most != left {
			t.Errorf("Ask(%v): %d, %d, %d, but %d are left", b, place, line, left, most)
		}
	})
	if asked < 50 {
		t.Errorf("Ask asked %d times", asked)
	}
}

// P5.11
func TestAfterAnAccident(t *testing.T) {
	accidents := 0
	eachRandom(300, func(r *rand.Rand, b api.StintBook) {
		for range 10 {
			depth := 1 + r.Intn(api.MaxStintDepth)
			was, _ := stint.Stay(b, depth)
			stay := 1 + r.Intn(max(1, was))
			o, h := stint.Accident(b, depth, stay)
			if h != api.Smooth {
				continue
			}
			accidents++
			checkHurt(t, b, o, depth, stay)
			checkNoFewerRotas(t, o, b)
			if mustCases(t, o) != mustCases(t, b) {
				t.Errorf("Accident(%v, %d, %d): %v has other cases", b, depth, stay, o)
			}
		}
	})
	if accidents < 500 {
		t.Errorf("%d accidents", accidents)
	}
}

// checkHurt checks the stays before and after an accident.
func checkHurt(t *testing.T, before, after api.StintBook, depth, stay int) {
	t.Helper()
	if h := stint.CheckBook(after); h != api.Smooth {
		t.Fatalf("Accident(%v, %d, %d): %v: %v", before, depth, stay, after, h)
	}
	for d := 1; d <= api.MaxStintDepth; d++ {
		was, _ := stint.Stay(before, d)
		n, h := stint.Stay(after, d)
		if n > was || d >= depth && n > stay || h != api.Smooth {
			t.Errorf("Accident(%v, %d, %d): at %d: %d, %v, but it was %d", before, depth, stay, d, n, h, was)
		}
		if d >= depth && n != min(was, stay) {
			t.Errorf("Accident(%v, %d, %d): at %d: %d, and it was %d", before, depth, stay, d, n, was)
		}
	}
}

// P5.12
func TestRest(t *testing.T) {
	fewer := 0
	eachRandom(300, func(r *rand.Rand, b api.StintBook) {
		if mustCases(t, b) == 0 {
			return
		}
		less := rested(b, r.Intn(b.Rest+1))
		checkNoFewerRotas(t, b, less)
		n, _ := stint.Rotas(b)
		if m, _ := stint.Rotas(less); m > n {
			fewer++
		}
		if len(b.Men) < api.MaxStintMen {
			more := clone(b)
			more.Men = append(more.Men, api.StintMan{Name: "eve", Deepest: 1 + r.Intn(api.MaxStintDepth)})
			checkNoFewerRotas(t, b, more)
		}
	})
	if fewer < 10 {
		t.Errorf("%d times there were more rotas with less rest", fewer)
	}
}
