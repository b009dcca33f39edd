package bearing_test

import (
	"math/rand"
	"slices"
	"testing"

	"lagan/api"
	"lagan/bearing"
	"lagan/model"
)

// Tests of P1.6 to P1.12: what holds of all books.

// P1.6, P0.4
func TestWhereverItIs(t *testing.T) {
	r := rand.New(rand.NewSource(6))
	for range 300 {
		b, really := randomBook(r, true)
		if is, h := bearing.IsCase(b, api.BearingCase{At: really.at, Offs: really.offs, False: really.liars}); !is || h != api.Smooth {
			t.Fatalf("%v, %v: no case: %v", b, really, h)
		}
		if l := mustWhere(t, b); !slices.Contains(l, really.at) {
			t.Errorf("%v, %v: Where: %v", b, really, l)
		}
		if e, n, _ := bearing.Box(b); really.at.East < e.Least || really.at.East > e.Most || really.at.North < n.Least || really.at.North > n.Most {
			t.Errorf("%v, %v: Box: %v, %v", b, really, e, n)
		}
		checkTold(t, b, really)
		checkWitnessesTold(t, b, really)
	}
}

// checkTold checks that what surely or never is so is so.
func checkTold(t *testing.T, b api.BearingChart, really truth) {
	t.Helper()
	for n := range b.High {
		for e := range b.Wide {
			u, _ := bearing.At(b, at(e, n))
			if is := at(e, n) == really.at; is && u == api.Never || !is && u == api.Surely {
				t.Errorf("%v, %v: At %d, %d: %v", b, really, e, n, u)
			}
		}
	}
	for i, off := range really.offs {
		if l, _ := bearing.Off(b, i); !slices.Contains(l, off) {
			t.Errorf("%v, %v: Off %d: %v", b, really, i, l)
		}
		if _, h := bearing.Swing(b, i, reach(off, off)); h != api.Smooth {
			t.Errorf("%v, %v: Swing %d: %v", b, really, i, h)
		}
	}
	for i, w := range b.Witnesses {
		u, _ := bearing.False(b, i)
		isFalse := slices.Contains(really.liars, i)
		if isFalse && u == api.Never || !isFalse && u == api.Surely {
			t.Errorf("%v, %v: False %d: %v", b, really, i, u)
		}
		if _, h := bearing.Trust(b, i); !isFalse && !w.Sure && h != api.Smooth {
			t.Errorf("%v, %v: Trust %d: %v", b, really, i, h)
		}
	}
}

// checkWitnessesTold checks what is told of all witnesses together.
func checkWitnessesTold(t *testing.T, b api.BearingChart, really truth) {
	t.Helper()
	if is, _ := bearing.Sound(b); len(really.liars) == 0 && !is {
		t.Errorf("%v, %v: not Sound", b, really)
	}
	if l, _ := bearing.Fewest(b); len(l) > len(really.liars) {
		t.Errorf("%v, %v: Fewest: %v", b, really, l)
	}
	if l, _ := bearing.Clash(b); len(l) > 0 && !overlap(l, really.liars) {
		t.Errorf("%v, %v: Clash: %v", b, really, l)
	}
	w := api.BearingWitness{At: at(-4, 9), Sure: true}
	w.Bearing = (modelBearing(w.At, really.at) + really.offs[0] + 8) % 8
	if _, h := bearing.Hear(b, w); len(b.Witnesses) < api.MaxBearingWitnesses && h != api.Smooth {
		t.Errorf("%v, %v: Hear: %v", b, really, h)
	}
}

func overlap(a, b []int) bool {
	return slices.ContainsFunc(a, func(i int) bool { return slices.Contains(b, i) })
}

// P1.7
func TestNoOthers(t *testing.T) {
	eachRandom(60, func(_ *rand.Rand, b api.BearingChart) {
		squares, _ := bearing.Where(b)
		var found []api.BearingSquare
		for _, c := range modelAll(b, 0) {
			if is, _ := bearing.IsCase(b, c); is && !slices.Contains(found, c.At) {
				found = append(found, c.At)
			}
		}
		if len(found) != len(squares) || !model.Contains(found, squares) {
			t.Errorf("Where(%v): %v, but cases are at %v", b, squares, found)
		}
		for i := range b.Compasses {
			numbers, _ := bearing.Off(b, i)
			for off := -3; off <= 3; off++ {
				if _, h := bearing.Swing(b, i, reach(off, off)); (h == api.Smooth) != slices.Contains(numbers, off) {
					t.Errorf("Off(%v, %d): %v, but swung to %d: %v", b, i, numbers, off, h)
				}
			}
		}
		for i := range b.Witnesses {
			checkUnsure(t, b, i)
		}
	})
}

// checkUnsure checks that just who is Unsure is false in a case, and not false in another one.
func checkUnsure(t *testing.T, b api.BearingChart, witness int) {
	t.Helper()
	u, h := bearing.False(b, witness)
	isFalse, isNot := 0, 0
	for _, c := range modelAll(b, 0) {
		if is, _ := bearing.IsCase(b, c); is && slices.Contains(c.False, witness) {
			isFalse++
		} else if is {
			isNot++
		}
	}
	if h == api.Smooth && (u == api.Unsure) != (isFalse > 0 && isNot > 0) {
		t.Errorf("False(%v, %d): %v, in %d cases, not in %d", b, witness, u, isFalse, isNot)
	}
}

// P1.8
func TestTurned(t *testing.T) {
	from := at(1, -2)
	for east := -6; east <= 6; east++ {
		for north := -6; north <= 6; north++ {
			if east == 0 && north == 0 {
				continue
			}
			there, _ := bearing.True(from, at(from.East+east, from.North+north))
			if back, h := bearing.True(at(from.East+east, from.North+north), from); back != (there+4)%8 || h != api.Smooth {
				t.Errorf("%d, %d: %d, back %d", east, north, there, back)
			}
			for times := 2; times <= 3; times++ {
				if far, h := bearing.True(from, at(from.East+times*east, from.North+times*north)); far != there || h != api.Smooth {
					t.Errorf("%d, %d: %d, %d times as far %d", east, north, there, times, far)
				}
			}
			// North and east, south and west are each other's mirror images.
			if turned, h := bearing.True(at(from.North, from.East), at(from.North+north, from.East+east)); turned != (10-there)%8 || h != api.Smooth {
				t.Errorf("%d, %d: %d, exchanged %d", east, north, there, turned)
			}
		}
	}
}

// P1.9
func TestWitnessesFewest(t *testing.T) {
	eachRandom(150, func(_ *rand.Rand, b api.BearingChart) {
		sound := func(list []int) bool {
			is, h := bearing.Sound(only(b, list))
			return is && h == api.Smooth
		}
		many := len(b.Witnesses)
		few, _ := bearing.Fewest(b)
		if !sound(others(many, few)) {
			t.Errorf("Fewest(%v): %v, but the others clash", b, few)
		}
		clash, _ := bearing.Clash(b)
		if len(clash) > 0 && sound(clash) {
			t.Errorf("Clash(%v): %v, but they can be right", b, clash)
		}
		if len(clash) == 0 && !sound(others(many, nil)) {
			t.Errorf("Clash(%v): nobody", b)
		}
		for _, l := range model.Lists(many) {
			if len(l) < len(few) && sound(others(many, l)) {
				t.Errorf("Fewest(%v): %v, but without %v, too", b, few, l)
			}
			if len(l) < len(clash) && !sound(l) {
				t.Errorf("Clash(%v): %v, but %v do, too", b, clash, l)
			}
		}
	})
}

// P1.10, P0.5
func TestNews(t *testing.T) {
	eachRandom(150, func(r *rand.Rand, b api.BearingChart) {
		for i := range b.Witnesses {
			if o, h := bearing.Trust(b, i); h == api.Smooth {
				checkLearnt(t, b, o, true)
			}
		}
		for i := range b.Compasses {
			for off := -3; off <= 3; off++ {
				if o, h := bearing.Swing(b, i, reach(off, min(3, off+1))); h == api.Smooth {
					checkLearnt(t, b, o, true)
				}
			}
		}
		for n := range 8 {
			if o, h := bearing.Hear(b, api.BearingWitness{At: at(r.Intn(9)-3, r.Intn(9)-3), Bearing: n, Sure: n%3 == 0}); h == api.Smooth {
				checkLearnt(t, b, o, false)
			}
		}
		checkAsked(t, b)
	})
}

// checkLearnt checks that the new book has nothing that the old one rules out.
func checkLearnt(t *testing.T, before, after api.BearingChart, noCase bool) {
	t.Helper()
	if noCase && mustCases(t, after) > mustCases(t, before) {
		t.Errorf("%v has more cases than %v", after, before)
	}
	if !model.Contains(mustWhere(t, before), mustWhere(t, after)) {
		t.Errorf("%v has more squares than %v", after, before)
	}
	for i := range before.Witnesses {
		was, _ := bearing.False(before, i)
		is, _ := bearing.False(after, i)
		if was != api.Unsure && is != was {
			t.Errorf("%v takes back of %v that witness %d is %v", after, before, i, was)
		}
	}
	for n := range before.High {
		for e := range before.Wide {
			was, _ := bearing.At(before, at(e, n))
			is, _ := bearing.At(after, at(e, n))
			if was != api.Unsure && is != was {
				t.Errorf("%v takes back of %v that %d, %d is %v", after, before, e, n, was)
			}
		}
	}
	for i := range before.Compasses {
		was, _ := bearing.Off(before, i)
		is, _ := bearing.Off(after, i)
		for _, off := range is {
			if !slices.Contains(was, off) {
				t.Errorf("%v can be off by %d, %v cannot", after, off, before)
			}
		}
	}
}

// checkAsked checks that no more cases are left than Ask says, whatever the answer is.
func checkAsked(t *testing.T, b api.BearingChart) {
	t.Helper()
	witness, left, h := bearing.Ask(b)
	if h != api.Smooth || witness < 0 {
		return
	}
	isNot := 0
	if trusted, h := bearing.Trust(b, witness); h == api.Smooth {
		isNot = mustCases(t, trusted)
	}
	if isFalse := mustCases(t, b) - isNot; max(isFalse, isNot) != left {
		t.Errorf("Ask(%v): %d, %d, but %d and %d are left", b, witness, left, isFalse, isNot)
	}
}

// P1.11
func TestMoved(t *testing.T) {
	moved := 0
	eachRandom(150, func(r *rand.Rand, b api.BearingChart) {
		squares, h := bearing.Where(b)
		if h != api.Smooth {
			return
		}
		east, north := r.Intn(4), r.Intn(4)
		far := clone(b)
		far.Wide, far.High = b.Wide+east, b.High+north
		for i := range far.Witnesses {
			far.Witnesses[i].At.East += east
			far.Witnesses[i].At.North += north
		}
		for i := range squares {
			squares[i].East += east
			squares[i].North += north
		}
		if l := mustWhere(t, far); !model.Contains(l, squares) {
			t.Errorf("Where(%v): %v, not all of %v", far, l, squares)
		}
		moved++
	})
	if moved == 0 {
		t.Error("no chart was moved")
	}
}

// P1.12
func TestOrder(t *testing.T) {
	eachRandom(150, func(r *rand.Rand, b api.BearingChart) {
		turned := clone(b)
		order := r.Perm(len(b.Witnesses))
		for i, k := range order {
			turned.Witnesses[i] = b.Witnesses[k]
		}
		if n, m := mustCases(t, b), mustCases(t, turned); n != m {
			t.Errorf("Cases(%v): %d, of %v: %d", b, n, turned, m)
		}
		l, h := bearing.Where(b)
		if m, k := bearing.Where(turned); !slices.Equal(l, m) || h != k {
			t.Errorf("Where(%v): %v, of %v: %v", b, l, turned, m)
		}
		for i := range b.Compasses {
			l, h := bearing.Off(b, i)
			if m, k := bearing.Off(turned, i); !slices.Equal(l, m) || h != k {
				t.Errorf("Off(%v): %v, of %v: %v", b, l, turned, m)
			}
		}
		for i, k := range order {
			u, _ := bearing.False(b, k)
			if v, _ := bearing.False(turned, i); u != v {
				t.Errorf("False(%v, %d): %v, of %v, %d: %v", b, k, u, turned, i, v)
			}
		}
		checkSameSize(t, b, turned)
	})
}

// checkSameSize checks that as many witnesses are too many, or clash, in both books, and that asking leaves as many cases.
func checkSameSize(t *testing.T, b, turned api.BearingChart) {
	t.Helper()
	few, _ := bearing.Fewest(b)
	fewTurned, _ := bearing.Fewest(turned)
	clash, _ := bearing.Clash(b)
	clashTurned, _ := bearing.Clash(turned)
	_, left, _ := bearing.Ask(b)
	_, leftTurned, _ := bearing.Ask(turned)
	if len(few) != len(fewTurned) || len(clash) != len(clashTurned) || left != leftTurned {
		t.Errorf("%v: %v, %v, %d; %v: %v, %v, %d", b, few, clash, left, turned, fewTurned, clashTurned, leftTurned)
	}
}
