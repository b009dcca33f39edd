package stint_test

import (
	"fmt"
	"math"
	"math/rand"
	"slices"
	"strings"
	"sync"
	"testing"

	"lagan/api"
	"lagan/model"
	"lagan/stint"
)

// Tests of P0.1 to P0.3 and of the rules, as far as they speak of package stint.

// strange returns books of which most have a hitch.
func strange() []api.StintBook {
	books := []api.StintBook{{}, bookT(), bookU(), adriftBook()}
	for _, n := range []int{math.MinInt, -1, 0, 1, 10, 30, 31, 61, 201, math.MaxInt} {
		for _, change := range []func(b *api.StintBook){
			func(b *api.StintBook) { b.Rest = n },
			func(b *api.StintBook) { b.Rows[0].Depth = n },
			func(b *api.StintBook) { b.Rows[1].Depth = n },
			func(b *api.StintBook) { b.Rows[1].Stay = n },
			func(b *api.StintBook) { b.Places[0].Least = n },
			func(b *api.StintBook) { b.Places[1].Most = n },
			func(b *api.StintBook) { b.Places[0] = reach(n, n) },
			func(b *api.StintBook) { b.Men[1].Deepest = n },
			func(b *api.StintBook) { b.Dives[0].Place = n },
			func(b *api.StintBook) { b.Dives[1].Begin = n },
			func(b *api.StintBook) { b.Dives[1].Ticks = n },
			func(b *api.StintBook) { b.Dives[2].Men = n },
			func(b *api.StintBook) { b.Soundings[0].Place = n },
			func(b *api.StintBook) { b.Soundings[0].Line = n },
		} {
			b := bookU()
			change(&b)
			books = append(books, b)
		}
	}
	for _, s := range []string{"", "\xff", "ann", strings.Repeat("a", 100000), "b\n"} {
		b := bookU()
		b.Men[1].Name = s
		books = append(books, b)
	}
	for _, change := range []func(b *api.StintBook){
		func(b *api.StintBook) { b.Rows = make([]api.StintRow, 100000) },
		func(b *api.StintBook) { b.Places = make([]api.Reach, 100000) },
		func(b *api.StintBook) { b.Men = make([]api.StintMan, 100000) },
		func(b *api.StintBook) { b.Dives = make([]api.StintDive, 100000) },
		func(b *api.StintBook) { b.Soundings = make([]api.StintSounding, 100000) },
	} {
		b := bookU()
		change(&b)
		books = append(books, b)
	}
	return books
}

// all tells what each function returns for a book.
func all(b api.StintBook, n int, depths []int, rota [][]int) string {
	var told strings.Builder
	note := func(results ...any) { fmt.Fprintln(&told, results...) }
	note(stint.CheckBook(b))
	note(stint.Stay(b, n))
	note(stint.IsCase(b, depths))
	note(stint.Cases(b))
	note(stint.Depths(b, n))
	note(stint.Stays(b, n))
	note(stint.May(b, n, n))
	note(stint.Apart(b, n, n))
	note(stint.Good(b, rota))
	note(stint.Rotas(b))
	note(stint.First(b))
	note(stint.Fair(b))
	note(stint.Crew(b))
	note(stint.Drop(b))
	note(stint.Clash(b))
	note(stint.Ask(b))
	note(stint.Sound(b, touched(n, n)))
	note(stint.Accident(b, n, n))
	note(stint.Print(b))
	return told.String()
}

// P0.1: whatever the functions are called with.
func TestAnything(t *testing.T) {
	depths := [][]int{nil, {9, 15}, {math.MinInt, math.MaxInt}, make([]int, 100000), {10, 15}}
	rotas := [][][]int{nil, {{0, 1}, {0}, {0}}, {{math.MinInt, math.MaxInt}, {-1}, {2}}, make([][]int, 100000), {make([]int, 100000), {0}, {0}}}
	for _, b := range strange() {
		for i, n := range []int{math.MinInt, -1, 0, 1, math.MaxInt} {
			if one, other := all(b, n, depths[i], rotas[i]), all(b, n, depths[i], rotas[i]); one != other {
				t.Errorf("%d: %.300s, and then %.300s", n, one, other)
			}
		}
	}
	for _, s := range []string{"\x00", "\xff\n", "stint \xff", "stint -", "row", "place", "man", "dive", "sounding", " ", "\n\n", strings.Repeat(" ", 40000), strings.Repeat("9", 40001), "stint 0\n" + strings.Repeat("row 1 1\n", 4000)} {
		if _, _, h := stint.Parse(s); h == api.Smooth {
			t.Errorf("Parse(%.20q): %v", s, h)
		}
	}
}

// P0.1: by whichever goroutines.
func TestGoroutines(t *testing.T) {
	for _, b := range []api.StintBook{bookT(), bookU(), adriftBook()} {
		depths, rota := []int{9, 15}, [][]int{{0, 1}, {0}, {1}}
		want := all(b, 1, depths, rota)
		var group sync.WaitGroup
		for range 20 {
			group.Add(1)
			go func() {
				defer group.Done()
				if s := all(b, 1, depths, rota); s != want {
					t.Errorf("%s, want %s", s, want)
				}
			}()
		}
		group.Wait()
	}
}

// questions are the functions that need a case, and a book alone; each tells whether its results are zero values, and returns its hitch.
func questions(b api.StintBook) []func() (bool, api.Hitch) {
	return []func() (bool, api.Hitch){func() (bool, api.Hitch) {
		n, h := stint.Rotas(b)
		return n == 0, h
	}, func() (bool, api.Hitch) {
		l, found, h := stint.First(b)
		return l == nil && !found, h
	}, func() (bool, api.Hitch) {
		l, n, found, h := stint.Fair(b)
		return l == nil && n == 0 && !found, h
	}, func() (bool, api.Hitch) {
		l, found, h := stint.Crew(b)
		return l == nil && !found, h
	}, func() (bool, api.Hitch) {
		l, h := stint.Drop(b)
		return l == nil, h
	}, func() (bool, api.Hitch) {
		place, line, left, h := stint.Ask(b)
		return place == 0 && line == 0 && left == 0, h
	}}
}

// placed are the functions that need a case, and what is asked about; each tells whether its results are zero values, and returns its hitch.
func placed(b api.StintBook, place, man, dive int) []func() (bool, api.Hitch) {
	return []func() (bool, api.Hitch){func() (bool, api.Hitch) {
		l, h := stint.Depths(b, place)
		return l == nil, h
	}, func() (bool, api.Hitch) {
		x, h := stint.Stays(b, place)
		return x == one(0), h
	}, func() (bool, api.Hitch) {
		u, h := stint.May(b, man, dive)
		return u == api.Unsure, h
	}}
}

// P0.2: with a hitch of the book all other results are zero values, whatever else is handed in.
func TestBookFirst(t *testing.T) {
	depths, rota := []int{99}, [][]int{{-1}}
	for _, b := range strange() {
		want := stint.CheckBook(b)
		if want == api.Smooth {
			continue
		}
		model.CheckZero(t, want, questions(b)...)
		model.CheckZero(t, want, placed(b, -1, -1, -1)...)
		model.CheckZero(t, want, func() (bool, api.Hitch) {
			n, h := stint.Stay(b, 31)
			return n == 0, h
		}, func() (bool, api.Hitch) {
			is, h := stint.IsCase(b, depths)
			return !is, h
		}, func() (bool, api.Hitch) {
			n, h := stint.Cases(b)
			return n == 0, h
		}, func() (bool, api.Hitch) {
			is, h := stint.Apart(b, -1, -1)
			return !is, h
		}, func() (bool, api.Hitch) {
			u, h := stint.Good(b, rota)
			return u == api.Unsure, h
		}, func() (bool, api.Hitch) {
			l, h := stint.Clash(b)
			return l == nil, h
		}, func() (bool, api.Hitch) {
			o, h := stint.Sound(b, touched(-1, -1))
			return isZero(o), h
		}, func() (bool, api.Hitch) {
			o, h := stint.Accident(b, 0, 0)
			return isZero(o), h
		}, func() (bool, api.Hitch) {
			s, h := stint.Print(b)
			return s == "", h
		})
	}
}

// P0.3, P5.5
func TestPrintedIsParsed(t *testing.T) {
	eachRandom(200, func(_ *rand.Rand, b api.StintBook) {
		s, h := stint.Print(b)
		if h != api.Smooth {
			t.Fatalf("Print(%v): %v", b, h)
		}
		for _, text := range []string{s, strings.TrimSuffix(s, "\n")} {
			if o, n, h := stint.Parse(text); !equal(o, b) || n != 0 || h != api.Smooth {
				t.Errorf("Parse(%q): %v, %d, %v", text, o, n, h)
			}
		}
	})
}

// R3
func TestEmpty(t *testing.T) {
	with, without := bookT(), bookT()
	with.Soundings, without.Soundings = []api.StintSounding{}, nil
	if one, other := all(with, 1, []int{}, [][]int{}), all(without, 1, nil, nil); one != other {
		t.Errorf("%s, and %s", one, other)
	}
	if one, other := all(with, 1, nil, [][]int{{}, {}, {}}), all(without, 1, nil, make([][]int, 3)); one != other {
		t.Errorf("%s, and %s", one, other)
	}
	bare := api.StintBook{Rows: []api.StintRow{}, Places: []api.Reach{}, Men: []api.StintMan{}, Dives: []api.StintDive{}}
	if one, other := all(bare, 0, nil, nil), all(api.StintBook{}, 0, nil, nil); one != other {
		t.Errorf("%s, and %s", one, other)
	}
}

// spare returns a book whose slices have room for more.
func spare(b api.StintBook) api.StintBook {
	b.Rows, b.Places, b.Men = slices.Grow(b.Rows, 5), slices.Grow(b.Places, 5), slices.Grow(b.Men, 5)
	b.Dives, b.Soundings = slices.Grow(b.Dives, 5), slices.Grow(b.Soundings, 5)
	return b
}

// R4
func TestMemory(t *testing.T) {
	b := spare(bookU())
	spareRow, spareSounding := b.Rows[2:3], b.Soundings[1:2]
	depths, rota := []int{9, 15}, [][]int{{0, 1}, {0}, {1}}
	all(b, 1, depths, rota)
	first, _, _ := stint.First(b)
	fair, _, _, _ := stint.Fair(b)
	for _, x := range [][][]int{first, fair} {
		for i := range x {
			if len(x[i]) != b.Dives[i].Men {
				t.Errorf("%v", x)
			}
			clear(x[i])
		}
	}
	sounding, h := stint.Sound(b, free(0, 9))
	hurt, g := stint.Accident(b, 12, 15)
	same, k := stint.Accident(b, 20, 20)
	if h != api.Smooth || g != api.Smooth || k != api.Smooth {
		t.Errorf("%v, %v, %v", h, g, k)
	}
	for _, o := range []api.StintBook{sounding, hurt, same} {
		clear(o.Rows)
		clear(o.Places)
		clear(o.Men)
		clear(o.Dives)
		clear(o.Soundings)
	}
	if !equal(b, bookU()) || spareRow[0] != (api.StintRow{}) || spareSounding[0] != (api.StintSounding{}) {
		t.Errorf("%v, %v, %v", b, spareRow, spareSounding)
	}
	if !slices.Equal(depths, []int{9, 15}) || !sameRotas(rota, [][]int{{0, 1}, {0}, {1}}) {
		t.Errorf("%v, %v", depths, rota)
	}
}

// R4: no two lists of a rota share memory.
func TestListsOfARotaAreTheirOwn(t *testing.T) {
	b := rested(bookU(), 0)
	for i := range b.Dives {
		b.Dives[i] = api.StintDive{Begin: 60 * i, Ticks: 1, Men: 1}
	}
	for i := range b.Dives {
		x, _, _ := stint.First(b)
		x[i][0] = 9
		for k := range x {
			if k != i && x[k][0] != 0 {
				t.Errorf("%d: %v", i, x)
			}
		}
	}
}
