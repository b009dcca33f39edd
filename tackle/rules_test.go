package tackle_test

import (
	"fmt"
	"math"
	"math/rand"
	"slices"
	"strings"
	"sync"
	"testing"

	"lagan/api"
	"lagan/model"
	"lagan/tackle"
)

// Tests of P0.1 to P0.3 and of the rules, as far as they speak of package tackle.

// strange returns books of which most have a hitch.
func strange() []api.TackleBook {
	books := []api.TackleBook{{}, bookG(), bookH(), adriftBook(), chain(), pair()}
	for _, n := range []int{math.MinInt, -1000, -1, 0, 1, 3, 5, 99, 100, math.MaxInt} {
		for _, change := range []func(b *api.TackleBook){
			func(b *api.TackleBook) { b.Winch = n },
			func(b *api.TackleBook) { b.Parts[0].Sheaves = n },
			func(b *api.TackleBook) { b.Parts[1].Bears.Least = n },
			func(b *api.TackleBook) { b.Parts[1].Bears.Most = n },
			func(b *api.TackleBook) { b.Parts[2].Bears = one(n) },
			func(b *api.TackleBook) { b.Gears[0][1] = n },
			func(b *api.TackleBook) { b.Gears[1] = append(b.Gears[1], n) },
			func(b *api.TackleBook) { b.Pieces[0].Weight.Least = n },
			func(b *api.TackleBook) { b.Pieces[0].Weight.Most = n },
			func(b *api.TackleBook) { b.Pieces[1].Weight = one(n) },
			func(b *api.TackleBook) { b.Tests[0].Gear = n },
			func(b *api.TackleBook) { b.Tests[0].Load = n },
		} {
			b := bookH()
			change(&b)
			books = append(books, b)
		}
	}
	for _, s := range []string{"", "\xff", "sling", strings.Repeat("a", 100000), "b\n"} {
		b, o := bookH(), bookH()
		b.Parts[1].Name, o.Pieces[1].Name = s, s
		books = append(books, b, o)
	}
	for _, change := range []func(b *api.TackleBook){
		func(b *api.TackleBook) { b.Parts = make([]api.TacklePart, 100000) },
		func(b *api.TackleBook) { b.Gears = make([][]int, 100000) },
		func(b *api.TackleBook) { b.Gears[1] = make([]int, 100000) },
		func(b *api.TackleBook) { b.Pieces = make([]api.TacklePiece, 100000) },
		func(b *api.TackleBook) { b.Tests = make([]api.TackleTest, 100000) },
	} {
		b := bookH()
		change(&b)
		books = append(books, b)
	}
	return books
}

// all tells what each function returns for a book.
func all(b api.TackleBook, n, m int, c api.TackleCase) string {
	var told strings.Builder
	note := func(results ...any) { fmt.Fprintln(&told, results...) }
	note(tackle.CheckBook(b))
	note(tackle.Pulls(b, n, m))
	note(tackle.Lifts(b, c, n, m))
	note(tackle.Lifts(b, c, 0, 0))
	note(tackle.IsCase(b, c))
	note(tackle.Cases(b))
	note(tackle.Bears(b, n))
	note(tackle.Weights(b, n))
	note(tackle.May(b, n, m))
	note(tackle.Most(b, n))
	note(tackle.Weak(b, n, m))
	note(tackle.Fewest(b))
	note(tackle.Share(b))
	note(tackle.Renew(b))
	note(tackle.Clash(b))
	note(tackle.Ask(b))
	note(tackle.Try(b, api.TackleTest{Gear: n, Load: m, Held: true}))
	note(tackle.Know(b, n, reach(m, m)))
	note(tackle.Know(b, 0, reach(m, n)))
	note(tackle.Weigh(b, n, reach(m, m)))
	note(tackle.Weigh(b, 0, reach(m, n)))
	note(tackle.Print(b))
	return told.String()
}

// P0.1: whatever the functions are called with.
func TestAnything(t *testing.T) {
	cases := []api.TackleCase{{}, tackleCase([]int{30, 20, 9}, 21, 8), tackleCase([]int{math.MinInt, 0, math.MaxInt}, math.MaxInt, 0), tackleCase(make([]int, 100000), make([]int, 100000)...), tackleCase([]int{0, 99, 0}, 1, 99)}
	loads := []int{0, 20, math.MinInt, math.MaxInt, 100}
	for _, b := range strange() {
		for i, n := range []int{math.MinInt, 0, 1, -1, math.MaxInt} {
			if one, other := all(b, n, loads[i], cases[i]), all(b, n, loads[i], cases[i]); one != other {
				t.Errorf("%d: %.300s, and then %.300s", n, one, other)
			}
		}
	}
	for _, s := range []string{"\x00", "\xff\n", "tackle \xff", "tackle -", "part", "gear", "test", " ", "\n\n", strings.Repeat(" ", 40000), strings.Repeat("9", 40001), "tackle 0\npart a 0 0\ngear " + strings.Repeat("0,", 19000) + "0\npiece a 1\n"} {
		if _, _, h := tackle.Parse(s); h == api.Smooth {
			t.Errorf("Parse(%.20q): %v", s, h)
		}
	}
}

// P0.1: by whichever goroutines.
func TestGoroutines(t *testing.T) {
	for _, b := range []api.TackleBook{bookG(), bookH(), adriftBook(), chain(), pair()} {
		c := tackleCase([]int{30, 20, 9}, 21, 8)
		want := all(b, 0, 20, c)
		var group sync.WaitGroup
		for range 20 {
			group.Add(1)
			go func() {
				defer group.Done()
				if s := all(b, 0, 20, c); s != want {
					t.Errorf("%s, want %s", s, want)
				}
			}()
		}
		group.Wait()
	}
}

// questions are the functions that need a case, and a book alone; each tells whether its results are zero values, and returns its hitch.
func questions(b api.TackleBook) []func() (bool, api.Hitch) {
	return []func() (bool, api.Hitch){func() (bool, api.Hitch) {
		l, found, h := tackle.Fewest(b)
		return l == nil && !found, h
	}, func() (bool, api.Hitch) {
		l, found, h := tackle.Share(b)
		return l == nil && !found, h
	}, func() (bool, api.Hitch) {
		l, found, h := tackle.Renew(b)
		return l == nil && !found, h
	}, func() (bool, api.Hitch) {
		gear, load, left, h := tackle.Ask(b)
		return gear == 0 && load == 0 && left == 0, h
	}}
}

// withGear are the functions that need a case, and ask about a gear, one of them about a piece, too; each tells whether its results are zero values, and returns its hitch.
func withGear(b api.TackleBook, gear, piece int) []func() (bool, api.Hitch) {
	return []func() (bool, api.Hitch){func() (bool, api.Hitch) {
		u, h := tackle.May(b, gear, piece)
		return u == api.Unsure, h
	}, func() (bool, api.Hitch) {
		n, h := tackle.Most(b, gear)
		return n == 0, h
	}}
}

// withLoad are the functions that ask about a gear with a load; each tells whether its results are zero values, and returns its hitch.
func withLoad(b api.TackleBook, gear, load int) []func() (bool, api.Hitch) {
	return []func() (bool, api.Hitch){func() (bool, api.Hitch) {
		l, h := tackle.Pulls(b, gear, load)
		return l == nil, h
	}, func() (bool, api.Hitch) {
		l, h := tackle.Weak(b, gear, load)
		return l == nil, h
	}}
}

// withPart are the functions that ask about a part; each tells whether its results are zero values, and returns its hitch.
func withPart(b api.TackleBook, part int) []func() (bool, api.Hitch) {
	return []func() (bool, api.Hitch){func() (bool, api.Hitch) {
		l, h := tackle.Bears(b, part)
		return l == nil, h
	}, func() (bool, api.Hitch) {
		o, h := tackle.Know(b, part, reach(1, 0))
		return isZero(o), h
	}}
}

// withPiece are the functions that ask about a piece; each tells whether its results are zero values, and returns its hitch.
func withPiece(b api.TackleBook, piece int) []func() (bool, api.Hitch) {
	return []func() (bool, api.Hitch){func() (bool, api.Hitch) {
		l, h := tackle.Weights(b, piece)
		return l == nil, h
	}, func() (bool, api.Hitch) {
		o, h := tackle.Weigh(b, piece, reach(1, 0))
		return isZero(o), h
	}, func() (bool, api.Hitch) {
		u, h := tackle.May(b, 0, piece)
		return u == api.Unsure, h
	}}
}

// P0.2: with a hitch of the book all other results are zero values, whatever else is handed in.
func TestBookFirst(t *testing.T) {
	c := tackleCase([]int{-1, 100, 0, 0, 0}, 0)
	for _, b := range strange() {
		want := tackle.CheckBook(b)
		if want == api.Smooth {
			continue
		}
		model.CheckZero(t, want, questions(b)...)
		model.CheckZero(t, want, withGear(b, -1, -1)...)
		model.CheckZero(t, want, withLoad(b, -1, 0)...)
		model.CheckZero(t, want, withPart(b, -1)...)
		model.CheckZero(t, want, withPiece(b, -1)...)
		model.CheckZero(t, want, func() (bool, api.Hitch) {
			is, h := tackle.Lifts(b, c, -1, -1)
			return !is, h
		}, func() (bool, api.Hitch) {
			is, h := tackle.IsCase(b, c)
			return !is, h
		}, func() (bool, api.Hitch) {
			n, h := tackle.Cases(b)
			return n == 0, h
		}, func() (bool, api.Hitch) {
			l, h := tackle.Clash(b)
			return l == nil, h
		}, func() (bool, api.Hitch) {
			o, h := tackle.Try(b, gave(-1, 0))
			return isZero(o), h
		}, func() (bool, api.Hitch) {
			s, h := tackle.Print(b)
			return s == "", h
		})
	}
}

// P0.3, P7.5
func TestPrintedIsParsed(t *testing.T) {
	eachRandom(200, func(_ *rand.Rand, b api.TackleBook) {
		s, h := tackle.Print(b)
		if h != api.Smooth {
			t.Fatalf("Print(%v): %v", b, h)
		}
		for _, text := range []string{s, strings.TrimSuffix(s, "\n")} {
			if o, n, h := tackle.Parse(text); !equal(o, b) || n != 0 || h != api.Smooth {
				t.Errorf("Parse(%q): %v, %d, %v", text, o, n, h)
			}
		}
	})
}

// R3
func TestEmpty(t *testing.T) {
	with, without := bookG(), bookG()
	with.Tests, without.Tests = []api.TackleTest{}, nil
	c := tackleCase([]int{30, 20, 9}, 21, 8)
	if one, other := all(with, 0, 20, c), all(without, 0, 20, c); one != other {
		t.Errorf("%s, and %s", one, other)
	}
	with.Gears[1], without.Gears[1] = []int{}, nil
	if one, other := all(with, 0, 20, c), all(without, 0, 20, c); one != other {
		t.Errorf("%s, and %s", one, other)
	}
	bare := api.TackleBook{Parts: []api.TacklePart{}, Gears: [][]int{}, Pieces: []api.TacklePiece{}, Tests: []api.TackleTest{}}
	if one, other := all(bare, 0, 1, tackleCase([]int{}, []int{}...)), all(api.TackleBook{}, 0, 1, api.TackleCase{}); one != other {
		t.Errorf("%s, and %s", one, other)
	}
	if one, other := all(bookG(), 0, 20, tackleCase([]int{}, []int{}...)), all(bookG(), 0, 20, api.TackleCase{}); one != other {
		t.Errorf("%s, and %s", one, other)
	}
}

// R4
func TestMemory(t *testing.T) {
	b := bookH()
	b.Parts, b.Gears, b.Pieces, b.Tests = slices.Grow(b.Parts, 5), slices.Grow(b.Gears, 5), slices.Grow(b.Pieces, 5), slices.Grow(b.Tests, 5)
	b.Gears[1] = slices.Grow(b.Gears[1], 5)
	spare, sparePart := b.Tests[1:2], b.Gears[1][2:3]
	c := tackleCase([]int{30, 20, 9}, 21, 8)
	all(b, 0, 20, c)
	pulls, _ := tackle.Pulls(b, 0, 20)
	gears, _, _ := tackle.Fewest(b)
	share, _, _ := tackle.Share(b)
	clear(pulls)
	clear(gears)
	clear(share)
	test, h := tackle.Try(b, held(0, 20))
	known, g := tackle.Know(b, 1, one(21))
	weight, k := tackle.Weigh(b, 0, one(20))
	if h != api.Smooth || g != api.Smooth || k != api.Smooth {
		t.Errorf("%v, %v, %v", h, g, k)
	}
	for _, o := range []api.TackleBook{test, known, weight} {
		for _, gear := range o.Gears {
			gear[0] = 9
		}
		clear(o.Parts)
		clear(o.Gears)
		clear(o.Pieces)
		clear(o.Tests)
	}
	if !equal(b, bookH()) || spare[0] != (api.TackleTest{}) || sparePart[0] != 0 {
		t.Errorf("%v, %v, %v", b, spare, sparePart)
	}
	if !slices.Equal(c.Bears, []int{30, 20, 9}) || !slices.Equal(c.Weights, []int{21, 8}) {
		t.Errorf("%v", c)
	}
}

// R4: no two gears of a book share memory.
func TestGearsOfABookAreTheirOwn(t *testing.T) {
	shared := []int{0, 2}
	b := geared(bookG(), shared, shared[:1], shared)
	o, h := tackle.Know(b, 1, one(20))
	if h != api.Smooth {
		t.Fatal(h)
	}
	o.Gears[0][0] = 9
	if o.Gears[1][0] == 9 || o.Gears[2][0] == 9 || shared[0] == 9 {
		t.Errorf("%v, %v", o.Gears, shared)
	}
	p, _, _ := tackle.Parse(textG)
	p.Gears[0][0] = 9
	if again, _, _ := tackle.Parse(textG); p.Gears[1][0] == 9 || !equal(again, bookG()) {
		t.Errorf("%v, %v", p.Gears, again)
	}
}
