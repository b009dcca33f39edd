package bearing_test

import (
	"fmt"
	"math"
	"math/rand"
	"slices"
	"strings"
	"sync"
	"testing"

	"lagan/api"
	"lagan/bearing"
	"lagan/model"
)

// Tests of P0.1 to P0.3 and of the rules, as far as they speak of package bearing.

// strange returns books of which most have a hitch.
func strange() []api.BearingChart {
	numbers := []int{math.MinInt, -4, -1, 0, 1, 8, math.MaxInt}
	books := []api.BearingChart{{}, bookK()}
	for _, n := range numbers {
		for field := range 9 {
			b := bookK()
			switch field {
			case 0:
				b.Wide = n
			case 1:
				b.High = n
			case 2:
				b.False = n
			case 3:
				b.Compasses[1].Least = n
			case 4:
				b.Compasses[1].Most = n
			case 5:
				b.Witnesses[1].At.East = n
			case 6:
				b.Witnesses[1].At.North = n
			case 7:
				b.Witnesses[1].Bearing = n
			case 8:
				b.Witnesses[1].Compass = n
			}
			books = append(books, b)
		}
	}
	long := bookK()
	long.Compasses = make([]api.Reach, 1000)
	many := bookK()
	many.Witnesses = make([]api.BearingWitness, 100000)
	return append(books, long, many)
}

// all tells what each function returns for a book.
func all(b api.BearingChart, n int, c api.BearingCase) string {
	var told strings.Builder
	note := func(results ...any) { fmt.Fprintln(&told, results...) }
	note(bearing.CheckChart(b))
	note(bearing.True(at(n, 0), at(0, n)))
	note(bearing.IsCase(b, c))
	note(bearing.Cases(b))
	note(bearing.Where(b))
	note(bearing.Box(b))
	note(bearing.At(b, at(n, 1)))
	note(bearing.Off(b, n))
	note(bearing.False(b, n))
	note(bearing.Sound(b))
	note(bearing.Fewest(b))
	note(bearing.Clash(b))
	note(bearing.Ask(b))
	note(bearing.Hear(b, api.BearingWitness{At: at(n, 0), Bearing: n, Compass: n}))
	note(bearing.Trust(b, n))
	note(bearing.Swing(b, n, reach(n, n)))
	note(bearing.Print(b))
	return told.String()
}

// P0.1: whatever the functions are called with.
func TestAnything(t *testing.T) {
	cases := []api.BearingCase{
		{},
		{Offs: []int{0, 1}, False: []int{0, 1, 2}},
		{At: at(math.MinInt, math.MaxInt), Offs: []int{math.MinInt}, False: make([]int, 1000)},
		{Offs: []int{math.MinInt, math.MaxInt}},
		{Offs: []int{0, 0}, False: []int{math.MaxInt}},
	}
	for _, b := range strange() {
		for i, n := range []int{math.MinInt, -1, 0, 1, math.MaxInt} {
			if one, other := all(b, n, cases[i]), all(b, n, cases[i]); one != other {
				t.Errorf("%d: %.300s, and then %.300s", n, one, other)
			}
		}
	}
	for _, s := range []string{"\x00", "\xff\n", "chart \xff 1 1", "chart - - -", "witness", " ", "\n\n", strings.Repeat(" ", 40000), strings.Repeat("9", 40001)} {
		if _, _, h := bearing.Parse(s); h == api.Smooth {
			t.Errorf("Parse(%.20q): %v", s, h)
		}
	}
}

// P0.1: by whichever goroutines.
func TestGoroutines(t *testing.T) {
	b := bookK()
	b.Witnesses = append(b.Witnesses, witnessL())
	c := api.BearingCase{At: at(2, 1), Offs: []int{0, 1}, False: []int{0}}
	want := all(b, 1, c)
	var group sync.WaitGroup
	for range 20 {
		group.Add(1)
		go func() {
			defer group.Done()
			if s := all(b, 1, c); s != want {
				t.Errorf("%s, want %s", s, want)
			}
		}()
	}
	group.Wait()
}

// P0.2: with a hitch of the book all other results are zero values, whatever else is handed in.
func TestBookFirst(t *testing.T) {
	for _, b := range strange() {
		want := bearing.CheckChart(b)
		if want == api.Smooth {
			continue
		}
		model.CheckZero(t, want, func() (bool, api.Hitch) {
			is, h := bearing.IsCase(b, api.BearingCase{At: at(-1, -1)})
			return !is, h
		}, func() (bool, api.Hitch) {
			n, h := bearing.Cases(b)
			return n == 0, h
		}, func() (bool, api.Hitch) {
			l, h := bearing.Where(b)
			return l == nil, h
		}, func() (bool, api.Hitch) {
			e, n, h := bearing.Box(b)
			return e == reach(0, 0) && n == reach(0, 0), h
		}, func() (bool, api.Hitch) {
			u, h := bearing.At(b, at(-1, 0))
			return u == 0, h
		}, func() (bool, api.Hitch) {
			l, h := bearing.Off(b, -1)
			return l == nil, h
		}, func() (bool, api.Hitch) {
			u, h := bearing.False(b, -1)
			return u == 0, h
		}, func() (bool, api.Hitch) {
			is, h := bearing.Sound(b)
			return !is, h
		}, func() (bool, api.Hitch) {
			l, h := bearing.Fewest(b)
			return l == nil, h
		}, func() (bool, api.Hitch) {
			l, h := bearing.Clash(b)
			return l == nil, h
		}, func() (bool, api.Hitch) {
			w, n, h := bearing.Ask(b)
			return w == 0 && n == 0, h
		}, func() (bool, api.Hitch) {
			o, h := bearing.Hear(b, api.BearingWitness{Bearing: -1})
			return isZero(o), h
		}, func() (bool, api.Hitch) {
			o, h := bearing.Trust(b, -1)
			return isZero(o), h
		}, func() (bool, api.Hitch) {
			o, h := bearing.Swing(b, -1, reach(9, 0))
			return isZero(o), h
		}, func() (bool, api.Hitch) {
			s, h := bearing.Print(b)
			return s == "", h
		})
	}
}

// P0.3, P1.5
func TestPrintedIsParsed(t *testing.T) {
	eachRandom(200, func(_ *rand.Rand, b api.BearingChart) {
		s, h := bearing.Print(b)
		if h != api.Smooth {
			t.Fatalf("Print(%v): %v", b, h)
		}
		for _, text := range []string{s, strings.TrimSuffix(s, "\n")} {
			if o, n, h := bearing.Parse(text); !equal(o, b) || n != 0 || h != api.Smooth {
				t.Errorf("Parse(%q): %v, %d, %v", text, o, n, h)
			}
		}
	})
}

// R3
func TestEmpty(t *testing.T) {
	with := bookK()
	with.Witnesses = []api.BearingWitness{}
	without := bookK()
	without.Witnesses = nil
	if one, other := all(with, 0, api.BearingCase{Offs: []int{0, 0}, False: []int{}}), all(without, 0, api.BearingCase{Offs: []int{0, 0}}); one != other {
		t.Errorf("%s, and %s", one, other)
	}
}

// R4
func TestMemory(t *testing.T) {
	b := bookK()
	b.Compasses = slices.Grow(b.Compasses, 5)
	b.Witnesses = slices.Grow(b.Witnesses, 5)
	spare := b.Witnesses[3:4]
	all(b, 1, api.BearingCase{At: at(2, 1), Offs: []int{0, 1}, False: []int{0}})
	heard, _ := bearing.Hear(b, witnessL())
	trusted, _ := bearing.Trust(b, 0)
	swung, _ := bearing.Swing(b, 1, reach(1, 1))
	for i, o := range []api.BearingChart{heard, trusted, swung} {
		if len(o.Compasses) != 2 || len(o.Witnesses) < 3 {
			t.Fatalf("%d: %v", i, o)
		}
		for k := range o.Compasses {
			o.Compasses[k] = reach(3, 3)
		}
		for k := range o.Witnesses {
			o.Witnesses[k] = api.BearingWitness{Bearing: 7}
		}
	}
	if !equal(b, bookK()) || spare[0] != (api.BearingWitness{}) {
		t.Errorf("%v, %v", b, spare)
	}
}
