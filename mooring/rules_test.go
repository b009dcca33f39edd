package mooring_test

import (
	"fmt"
	"math"
	"math/rand"
	"slices"
	"strings"
	"sync"
	"testing"

	"lagan/api"
	"lagan/model"
	"lagan/mooring"
)

// Tests of P0.1 to P0.3 and of the rules, as far as they speak of package mooring.

// strange returns books of which most have a hitch.
func strange() []api.MooringBook {
	books := []api.MooringBook{{}, bookA(), lone(), adriftBook(), widest()}
	for _, n := range []int{math.MinInt, -1000, -1, 0, 1, 3, 5, 8, 99, 100, 200, math.MaxInt} {
		for _, change := range []func(b *api.MooringBook){
			func(b *api.MooringBook) { b.Depth = n },
			func(b *api.MooringBook) { b.Anchors[0].At.East = n },
			func(b *api.MooringBook) { b.Anchors[2].At.North = n },
			func(b *api.MooringBook) { b.Anchors[1].Ground = api.MooringKind(n) },
			func(b *api.MooringBook) { b.Anchors[1].Strength = n },
			func(b *api.MooringBook) { b.Anchors[1].Length = n },
			func(b *api.MooringBook) { b.Grounds[0].Least = n },
			func(b *api.MooringBook) { b.Grounds[0].Most = n },
			func(b *api.MooringBook) { b.Grounds[2] = one(n) },
			func(b *api.MooringBook) { b.Winds[0].Side = n },
			func(b *api.MooringBook) { b.Winds[0].Strength.Least = n },
			func(b *api.MooringBook) { b.Winds[0].Strength.Most = n },
			func(b *api.MooringBook) { b.Winds[1].Strength = one(n) },
			func(b *api.MooringBook) { b.Nights[0].Wind = n },
		} {
			b := spent(bookA(), rode(0))
			change(&b)
			books = append(books, b)
		}
	}
	for _, change := range []func(b *api.MooringBook){
		func(b *api.MooringBook) { b.Anchors = make([]api.MooringAnchor, 100000) },
		func(b *api.MooringBook) { b.Grounds = make([]api.Reach, 100000) },
		func(b *api.MooringBook) { b.Winds = make([]api.MooringWind, 100000) },
		func(b *api.MooringBook) { b.Nights = make([]api.MooringNight, 100000) },
	} {
		b := bookA()
		change(&b)
		books = append(books, b)
	}
	return books
}

// all tells what each function returns for a book.
func all(b api.MooringBook, n, m int, c api.MooringCase) string {
	var told strings.Builder
	note := func(results ...any) { fmt.Fprintln(&told, results...) }
	note(mooring.CheckBook(b))
	note(mooring.Windward(b, n, m))
	note(mooring.Hold(b, c, n))
	note(mooring.Pulls(b, c, n))
	note(mooring.IsCase(b, c))
	note(mooring.Cases(b))
	note(mooring.Grounds(b, api.MooringKind(n)))
	note(mooring.Strengths(b, n))
	note(mooring.Rides(b, n))
	note(mooring.Safe(b))
	note(mooring.First(b, n))
	note(mooring.Open(b))
	note(mooring.Shift(b))
	note(mooring.Clash(b))
	note(mooring.Ask(b))
	note(mooring.Night(b, api.MooringNight{Wind: n, Rode: true}))
	note(mooring.Gauge(b, n, reach(m, m)))
	note(mooring.Gauge(b, 0, reach(m, n)))
	note(mooring.Test(b, api.MooringKind(n), reach(m, m)))
	note(mooring.Test(b, mud, reach(m, n)))
	note(mooring.Print(b))
	return told.String()
}

// P0.1: whatever the functions are called with.
func TestAnything(t *testing.T) {
	cases := []api.MooringCase{{}, caseC(), mooringCase([]int{math.MinInt, 0, math.MaxInt}, math.MaxInt, 0), mooringCase(make([]int, 100000), make([]int, 100000)...), mooringCase([]int{0, 99, 0}, 1, 199)}
	others := []int{0, 7, math.MinInt, math.MaxInt, 100}
	for _, b := range strange() {
		for i, n := range []int{math.MinInt, 0, 1, -1, math.MaxInt} {
			if one, other := all(b, n, others[i], cases[i]), all(b, n, others[i], cases[i]); one != other {
				t.Errorf("%d: %.300s, and then %.300s", n, one, other)
			}
		}
	}
	for _, s := range []string{"\x00", "\xff\n", "mooring \xff", "mooring -", "anchor", "wind", "night", " ", "\n\n", strings.Repeat(" ", 40000), strings.Repeat("9", 40001), "mooring 1 0 0 0\n" + strings.Repeat("wind e 1\n", 4000)} {
		if _, _, h := mooring.Parse(s); h == api.Smooth {
			t.Errorf("Parse(%.20q): %v", s, h)
		}
	}
}

// P0.1: by whichever goroutines.
func TestGoroutines(t *testing.T) {
	for _, b := range []api.MooringBook{bookA(), lone(), adriftBook(), widest()} {
		want := all(b, 0, 7, caseC())
		var group sync.WaitGroup
		for range 20 {
			group.Add(1)
			go func() {
				defer group.Done()
				if s := all(b, 0, 7, caseC()); s != want {
					t.Errorf("%s, want %s", s, want)
				}
			}()
		}
		group.Wait()
	}
}

// questions are the functions that need a case, and a book alone; each tells whether its results are zero values, and returns its hitch.
func questions(b api.MooringBook) []func() (bool, api.Hitch) {
	return []func() (bool, api.Hitch){func() (bool, api.Hitch) {
		u, h := mooring.Safe(b)
		return u == api.Unsure, h
	}, func() (bool, api.Hitch) {
		anchor, to, found, h := mooring.Shift(b)
		return anchor == 0 && to == at(0, 0) && !found, h
	}, func() (bool, api.Hitch) {
		kind, left, h := mooring.Ask(b)
		return kind == 0 && left == 0, h
	}}
}

// withWind are the functions that need a case, and ask about a wind; each tells whether its results are zero values, and returns its hitch.
func withWind(b api.MooringBook, wind int) []func() (bool, api.Hitch) {
	return []func() (bool, api.Hitch){func() (bool, api.Hitch) {
		l, h := mooring.Strengths(b, wind)
		return l == nil, h
	}, func() (bool, api.Hitch) {
		u, h := mooring.Rides(b, wind)
		return u == api.Unsure, h
	}, func() (bool, api.Hitch) {
		anchor, spare, found, h := mooring.First(b, wind)
		return anchor == 0 && spare == 0 && !found, h
	}}
}

// withKind are the functions that ask about a kind of ground; each tells whether its results are zero values, and returns its hitch.
func withKind(b api.MooringBook, kind int) []func() (bool, api.Hitch) {
	return []func() (bool, api.Hitch){func() (bool, api.Hitch) {
		l, h := mooring.Grounds(b, api.MooringKind(kind))
		return l == nil, h
	}, func() (bool, api.Hitch) {
		o, h := mooring.Test(b, api.MooringKind(kind), reach(1, 0))
		return isZero(o), h
	}}
}

// P0.2: with a hitch of the book all other results are zero values, whatever else is handed in.
func TestBookFirst(t *testing.T) {
	c := mooringCase([]int{-1, 100, 0, 0, 0}, 0)
	for _, b := range strange() {
		want := mooring.CheckBook(b)
		if want == api.Smooth {
			continue
		}
		model.CheckZero(t, want, questions(b)...)
		model.CheckZero(t, want, withWind(b, -1)...)
		model.CheckZero(t, want, withKind(b, -1)...)
		model.CheckZero(t, want, func() (bool, api.Hitch) {
			n, h := mooring.Windward(b, -1, -1)
			return n == 0, h
		}, func() (bool, api.Hitch) {
			n, h := mooring.Hold(b, c, -1)
			return n == 0, h
		}, func() (bool, api.Hitch) {
			l, h := mooring.Pulls(b, c, -1)
			return l == nil, h
		}, func() (bool, api.Hitch) {
			is, h := mooring.IsCase(b, c)
			return !is, h
		}, func() (bool, api.Hitch) {
			n, h := mooring.Cases(b)
			return n == 0, h
		}, func() (bool, api.Hitch) {
			l, h := mooring.Open(b)
			return l == nil, h
		}, func() (bool, api.Hitch) {
			l, h := mooring.Clash(b)
			return l == nil, h
		}, func() (bool, api.Hitch) {
			o, h := mooring.Night(b, rode(-1))
			return isZero(o), h
		}, func() (bool, api.Hitch) {
			o, h := mooring.Gauge(b, -1, reach(1, 0))
			return isZero(o), h
		}, func() (bool, api.Hitch) {
			s, h := mooring.Print(b)
			return s == "", h
		})
	}
}

// P0.3, P8.5
func TestPrintedIsParsed(t *testing.T) {
	eachRandom(200, func(_ *rand.Rand, b api.MooringBook) {
		s, h := mooring.Print(b)
		if h != api.Smooth {
			t.Fatalf("Print(%v): %v", b, h)
		}
		for _, text := range []string{s, strings.TrimSuffix(s, "\n")} {
			if o, n, h := mooring.Parse(text); !equal(o, b) || n != 0 || h != api.Smooth {
				t.Errorf("Parse(%q): %v, %d, %v", text, o, n, h)
			}
		}
	})
}

// R3
func TestEmpty(t *testing.T) {
	with, without := bookA(), bookA()
	with.Nights, without.Nights = []api.MooringNight{}, nil
	if one, other := all(with, 0, 7, caseC()), all(without, 0, 7, caseC()); one != other {
		t.Errorf("%s, and %s", one, other)
	}
	bare := api.MooringBook{Depth: 1, Anchors: []api.MooringAnchor{}, Grounds: []api.Reach{}, Winds: []api.MooringWind{}, Nights: []api.MooringNight{}}
	if one, other := all(bare, 0, 1, mooringCase([]int{}, []int{}...)), all(api.MooringBook{Depth: 1}, 0, 1, api.MooringCase{}); one != other {
		t.Errorf("%s, and %s", one, other)
	}
	if one, other := all(bookA(), 0, 7, mooringCase([]int{}, []int{}...)), all(bookA(), 0, 7, api.MooringCase{}); one != other {
		t.Errorf("%s, and %s", one, other)
	}
}

// R4
func TestMemory(t *testing.T) {
	b := spent(bookA(), rode(0))
	b.Anchors, b.Grounds, b.Winds, b.Nights = slices.Grow(b.Anchors, 5), slices.Grow(b.Grounds, 5), slices.Grow(b.Winds, 5), slices.Grow(b.Nights, 5)
	spare := b.Nights[1:2]
	c := caseC()
	all(b, 0, 7, c)
	pulls, _ := mooring.Pulls(b, c, 0)
	grounds, _ := mooring.Grounds(b, mud)
	strengths, _ := mooring.Strengths(b, 0)
	clear(pulls)
	clear(grounds)
	clear(strengths)
	night, h := mooring.Night(b, rode(1))
	wind, g := mooring.Gauge(b, 0, one(30))
	ground, k := mooring.Test(b, mud, one(30))
	if h != api.Smooth || g != api.Smooth || k != api.Smooth {
		t.Errorf("%v, %v, %v", h, g, k)
	}
	for _, o := range []api.MooringBook{night, wind, ground} {
		clear(o.Anchors)
		clear(o.Grounds)
		clear(o.Winds)
		clear(o.Nights)
	}
	if !equal(b, spent(bookA(), rode(0))) || spare[0] != (api.MooringNight{}) {
		t.Errorf("%v, %v", b, spare)
	}
	if !slices.Equal(c.Grounds, caseC().Grounds) || !slices.Equal(c.Strengths, caseC().Strengths) {
		t.Errorf("%v", c)
	}
	// What is read is in memory of its own, too.
	p, _, _ := mooring.Parse(textA)
	clear(p.Grounds)
	clear(p.Anchors)
	if again, _, _ := mooring.Parse(textA); !equal(again, bookA()) {
		t.Errorf("%v", again)
	}
}
