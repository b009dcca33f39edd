package hull_test

import (
	"fmt"
	"math"
	"math/rand"
	"slices"
	"strings"
	"sync"
	"testing"

	"lagan/api"
	"lagan/hull"
	"lagan/model"
)

// Tests of P0.1 to P0.3 and of the rules, as far as they speak of package hull.

// strange returns books of which most have a hitch.
func strange() []api.HullBook {
	books := []api.HullBook{{}, bookH(), bookG(), adriftBook(), emptied(), tower()}
	for _, n := range []int{math.MinInt, -1000, -10, -1, 0, 1, 3, 10, 99, 1000, 10000, math.MaxInt} {
		for _, change := range []func(b *api.HullBook){
			func(b *api.HullBook) { b.Limit = n },
			func(b *api.HullBook) { b.Ballast.Least = n },
			func(b *api.HullBook) { b.Ballast.Most = n },
			func(b *api.HullBook) { b.Ballast = one(n) },
			func(b *api.HullBook) { b.Pieces[0].Arm = n },
			func(b *api.HullBook) { b.Pieces[0].Weight.Least = n },
			func(b *api.HullBook) { b.Pieces[1].Weight.Most = n },
			func(b *api.HullBook) { b.Pieces[1].Weight = one(n) },
			func(b *api.HullBook) { b.Pieces[1].On = []int{n} },
			func(b *api.HullBook) { b.Pieces[2].On[0] = n },
			func(b *api.HullBook) { b.Out[0] = n },
			func(b *api.HullBook) { b.Out = append(b.Out, n) },
			func(b *api.HullBook) { b.Heels[0].After = n },
			func(b *api.HullBook) { b.Heels[0].Side = api.HullSide(n) },
		} {
			b := bookG()
			change(&b)
			books = append(books, b)
		}
	}
	for _, s := range []string{"", "\xff", "gun", strings.Repeat("a", 100000), "b\n"} {
		b := bookG()
		b.Pieces[1].Name = s
		books = append(books, b)
	}
	for _, change := range []func(b *api.HullBook){
		func(b *api.HullBook) { b.Pieces = make([]api.HullPiece, 100000) },
		func(b *api.HullBook) { b.Pieces[2].On = make([]int, 100000) },
		func(b *api.HullBook) { b.Out = make([]int, 100000) },
		func(b *api.HullBook) { b.Heels = make([]api.HullHeel, 100000) },
	} {
		b := bookG()
		change(&b)
		books = append(books, b)
	}
	return books
}

// all tells what each function returns for a book.
func all(b api.HullBook, n int, c api.HullCase, list []int) string {
	var told strings.Builder
	note := func(results ...any) { fmt.Fprintln(&told, results...) }
	note(hull.CheckBook(b))
	note(hull.Moment(b, c, list))
	note(hull.IsCase(b, c))
	note(hull.Cases(b))
	note(hull.Weights(b, n))
	note(hull.Ballasts(b))
	note(hull.Moments(b, list))
	note(hull.Rolls(b, list))
	note(hull.Free(b))
	note(hull.Next(b))
	note(hull.Safe(b, list))
	note(hull.Orders(b))
	note(hull.First(b))
	note(hull.Steadiest(b))
	note(hull.Clash(b))
	note(hull.Ask(b))
	note(hull.Heel(b, heel(n, api.HullSide(n))))
	note(hull.Weigh(b, n, reach(n, n)))
	note(hull.Weigh(b, 0, reach(n, n)))
	note(hull.Lift(b, n))
	note(hull.Print(b))
	return told.String()
}

// P0.1: whatever the functions are called with.
func TestAnything(t *testing.T) {
	cases := []api.HullCase{{}, hullCase(0, 20, 30, 10), hullCase(math.MinInt, math.MaxInt), hullCase(0, make([]int, 100000)...), hullCase(0, math.MinInt, math.MaxInt, 10)}
	order := [][]int{nil, {2, 0, 1}, {math.MinInt, math.MaxInt}, make([]int, 100000), {0, 1}}
	for _, b := range strange() {
		for i, n := range []int{math.MinInt, -1, 0, 1, math.MaxInt} {
			if one, other := all(b, n, cases[i], order[i]), all(b, n, cases[i], order[i]); one != other {
				t.Errorf("%d: %.300s, and then %.300s", n, one, other)
			}
		}
	}
	for _, s := range []string{"\x00", "\xff\n", "hull \xff 0 -", "hull - - -", "piece", "heel", " ", "\n\n", strings.Repeat(" ", 40000), strings.Repeat("9", 40001), "hull 0 0 " + strings.Repeat("0,", 19000) + "0\npiece a 0 1 -\n"} {
		if _, _, h := hull.Parse(s); h == api.Smooth {
			t.Errorf("Parse(%.20q): %v", s, h)
		}
	}
}

// P0.1: by whichever goroutines.
func TestGoroutines(t *testing.T) {
	for _, b := range []api.HullBook{bookH(), bookG(), adriftBook(), tower()} {
		c, order := hullCase(0, 20, 30, 10), []int{2, 0, 1}
		want := all(b, 1, c, order)
		var group sync.WaitGroup
		for range 20 {
			group.Add(1)
			go func() {
				defer group.Done()
				if s := all(b, 1, c, order); s != want {
					t.Errorf("%s, want %s", s, want)
				}
			}()
		}
		group.Wait()
	}
}

// questions are the functions that need a case, and a book alone; each tells whether its results are zero values, and returns its hitch.
func questions(b api.HullBook) []func() (bool, api.Hitch) {
	return []func() (bool, api.Hitch){func() (bool, api.Hitch) {
		l, h := hull.Ballasts(b)
		return l == nil, h
	}, func() (bool, api.Hitch) {
		l, h := hull.Next(b)
		return l == nil, h
	}, func() (bool, api.Hitch) {
		n, h := hull.Orders(b)
		return n == 0, h
	}, func() (bool, api.Hitch) {
		l, found, h := hull.First(b)
		return l == nil && !found, h
	}, func() (bool, api.Hitch) {
		l, n, h := hull.Steadiest(b)
		return l == nil && n == 0, h
	}, func() (bool, api.Hitch) {
		piece, left, h := hull.Ask(b)
		return piece == 0 && left == 0, h
	}}
}

// withPieces are the functions that need a case, and pieces; each tells whether its results are zero values, and returns its hitch.
func withPieces(b api.HullBook, out []int) []func() (bool, api.Hitch) {
	return []func() (bool, api.Hitch){func() (bool, api.Hitch) {
		r, h := hull.Moments(b, out)
		return r == one(0), h
	}, func() (bool, api.Hitch) {
		u, h := hull.Rolls(b, out)
		return u == api.Unsure, h
	}}
}

// withPiece are the functions that ask about a piece; each tells whether its results are zero values, and returns its hitch.
func withPiece(b api.HullBook, piece int) []func() (bool, api.Hitch) {
	return []func() (bool, api.Hitch){func() (bool, api.Hitch) {
		l, h := hull.Weights(b, piece)
		return l == nil, h
	}, func() (bool, api.Hitch) {
		o, h := hull.Weigh(b, piece, reach(1, 0))
		return isZero(o), h
	}, func() (bool, api.Hitch) {
		o, h := hull.Lift(b, piece)
		return isZero(o), h
	}}
}

// P0.2: with a hitch of the book all other results are zero values, whatever else is handed in.
func TestBookFirst(t *testing.T) {
	c := hullCase(1000, 100)
	for _, b := range strange() {
		want := hull.CheckBook(b)
		if want == api.Smooth {
			continue
		}
		model.CheckZero(t, want, questions(b)...)
		model.CheckZero(t, want, withPieces(b, []int{-1})...)
		model.CheckZero(t, want, withPiece(b, -1)...)
		model.CheckZero(t, want, func() (bool, api.Hitch) {
			n, h := hull.Moment(b, c, []int{-1})
			return n == 0, h
		}, func() (bool, api.Hitch) {
			is, h := hull.IsCase(b, c)
			return !is, h
		}, func() (bool, api.Hitch) {
			n, h := hull.Cases(b)
			return n == 0, h
		}, func() (bool, api.Hitch) {
			l, h := hull.Free(b)
			return l == nil, h
		}, func() (bool, api.Hitch) {
			u, h := hull.Safe(b, []int{-1})
			return u == api.Unsure, h
		}, func() (bool, api.Hitch) {
			l, h := hull.Clash(b)
			return l == nil, h
		}, func() (bool, api.Hitch) {
			o, h := hull.Heel(b, heel(-1, -1))
			return isZero(o), h
		}, func() (bool, api.Hitch) {
			s, h := hull.Print(b)
			return s == "", h
		})
	}
}

// P0.3, P6.5
func TestPrintedIsParsed(t *testing.T) {
	eachRandom(200, func(_ *rand.Rand, b api.HullBook) {
		s, h := hull.Print(b)
		if h != api.Smooth {
			t.Fatalf("Print(%v): %v", b, h)
		}
		for _, text := range []string{s, strings.TrimSuffix(s, "\n")} {
			if o, n, h := hull.Parse(text); !equal(o, b) || n != 0 || h != api.Smooth {
				t.Errorf("Parse(%q): %v, %d, %v", text, o, n, h)
			}
		}
	})
}

// R3
func TestEmpty(t *testing.T) {
	with, without := bookH(), bookH()
	with.Out, with.Heels, with.Pieces[0].On = []int{}, []api.HullHeel{}, []int{}
	without.Out, without.Heels, without.Pieces[0].On = nil, nil, nil
	c := hullCase(0, 20, 30, 10)
	if one, other := all(with, 1, c, []int{}), all(without, 1, c, nil); one != other {
		t.Errorf("%s, and %s", one, other)
	}
	if one, other := all(emptied(), 1, c, []int{}), all(emptied(), 1, c, nil); one != other {
		t.Errorf("%s, and %s", one, other)
	}
	bare := api.HullBook{Pieces: []api.HullPiece{}, Out: []int{}, Heels: []api.HullHeel{}}
	if one, other := all(bare, 0, api.HullCase{Weights: []int{}}, []int{}), all(api.HullBook{}, 0, api.HullCase{}, nil); one != other {
		t.Errorf("%s, and %s", one, other)
	}
}

// R4
func TestMemory(t *testing.T) {
	b := bookG()
	b.Pieces, b.Out, b.Heels = slices.Grow(b.Pieces, 5), slices.Grow(b.Out, 5), slices.Grow(b.Heels, 5)
	spareOut, spareHeel := b.Out[1:2], b.Heels[1:2]
	c, order := hullCase(0, 20, 30, 10), []int{0, 1}
	all(b, 1, c, order)
	first, _, _ := hull.First(b)
	steadiest, _, _ := hull.Steadiest(b)
	free, _ := hull.Free(b)
	clear(first)
	clear(steadiest)
	clear(free)
	heeled, h := hull.Heel(b, upright(1))
	weighed, g := hull.Weigh(b, 0, one(20))
	lifted, k := hull.Lift(b, 0)
	if h != api.Smooth || g != api.Smooth || k != api.Smooth {
		t.Errorf("%v, %v, %v", h, g, k)
	}
	for _, o := range []api.HullBook{heeled, weighed, lifted} {
		clear(o.Pieces[2].On)
		o.Pieces[2].On[0] = 9
		clear(o.Pieces)
		clear(o.Out)
		clear(o.Heels)
	}
	if !equal(b, bookG()) || spareOut[0] != 0 || spareHeel[0] != (api.HullHeel{}) {
		t.Errorf("%v, %v, %v", b, spareOut, spareHeel)
	}
	if !slices.Equal(c.Weights, []int{20, 30, 10}) || !slices.Equal(order, []int{0, 1}) {
		t.Errorf("%v, %v", c, order)
	}
}

// R4: no two lists of a book share memory.
func TestListsOfABookAreTheirOwn(t *testing.T) {
	text := "hull 9 0 2,1\npiece a 0 1 -\npiece b 0 1 0\npiece c 0 1 0,1\n"
	for i := range 3 {
		b, _, _ := hull.Parse(text)
		o, h := hull.Weigh(b, 0, one(1))
		if h != api.Smooth {
			t.Fatal(h)
		}
		lists := [][]int{o.Out, o.Pieces[1].On, o.Pieces[2].On}
		lists[i][0] = 9
		for k, l := range lists {
			if k != i && l[0] == 9 {
				t.Errorf("%d: %v", i, o)
			}
		}
		if s, _ := hull.Print(b); s != text {
			t.Errorf("%d: %v", i, b)
		}
	}
}
