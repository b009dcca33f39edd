package drag_test

import (
	"fmt"
	"math"
	"math/rand"
	"slices"
	"strings"
	"sync"
	"testing"

	"lagan/api"
	"lagan/drag"
	"lagan/model"
)

// Tests of P0.1 to P0.3 and of the rules, as far as they speak of package drag.

// strange returns books of which most have a hitch.
func strange() []api.DragBook {
	books := []api.DragBook{{}, bookD(), bookE(), adriftBook()}
	for _, n := range []int{math.MinInt, -5, -1, 0, 1, 6, math.MaxInt} {
		for _, change := range []func(b *api.DragBook){
			func(b *api.DragBook) { b.Rows = n },
			func(b *api.DragBook) { b.Lanes = n },
			func(b *api.DragBook) { b.Slack = n },
			func(b *api.DragBook) { b.Rocks[0].Row = n },
			func(b *api.DragBook) { b.Rocks[0].Lane = n },
			func(b *api.DragBook) { b.Lines[1].Rows.Least = n },
			func(b *api.DragBook) { b.Lines[1].Lanes.Most = n },
			func(b *api.DragBook) { b.Lines[1].Tide.Least = n },
			func(b *api.DragBook) { b.Lines[1].Tide.Most = n },
			func(b *api.DragBook) { b.Leads = []api.DragLead{{At: sq(n, 0)}} },
			func(b *api.DragBook) { b.Leads = []api.DragLead{{Brought: api.DragKind(n)}} },
		} {
			b := bookD()
			change(&b)
			books = append(books, b)
		}
	}
	long := bookD()
	long.Ground[0] = strings.Repeat("?", 100000)
	many := bookD()
	many.Ground = slices.Repeat([]string{""}, 100000)
	full := bookD()
	full.Rocks, full.Lines, full.Leads = nil, make([]api.DragLine, 100000), make([]api.DragLead, 100000)
	return append(books, long, many, full)
}

// all tells what each function returns for a book.
func all(b api.DragBook, n int, c api.DragCase) string {
	var told strings.Builder
	note := func(results ...any) { fmt.Fprintln(&told, results...) }
	note(drag.CheckBook(b))
	note(drag.Swept(b, n, n))
	note(drag.IsCase(b, c))
	note(drag.Cases(b))
	note(drag.Where(b))
	note(drag.Lies(b, sq(n, 1)))
	note(drag.Missed(b, n))
	note(drag.Shifts(b, n))
	note(drag.Muddy(b, sq(2, n)))
	note(drag.Unswept(b))
	note(drag.Fewest(b, n, 1))
	note(drag.Next(b, 1, n))
	note(drag.Clash(b))
	note(drag.Drag(b, api.DragLine{Rows: reach(n, n), Lanes: reach(n, n), Tide: reach(n, n)}))
	note(drag.Sound(b, api.DragLead{At: sq(n, n), Brought: api.DragKind(n)}))
	note(drag.Steady(b, n, reach(n, n)))
	note(drag.Taut(b, n))
	note(drag.Print(b))
	return told.String()
}

// P0.1: whatever the functions are called with.
func TestAnything(t *testing.T) {
	cases := []api.DragCase{
		{},
		{Wreck: sq(1, 1), Shifts: []int{0, 0}, Slack: []int{0, 1}, Mud: []int{0}},
		{Wreck: sq(math.MinInt, math.MaxInt), Shifts: []int{math.MinInt}, Slack: make([]int, 1000)},
		{Shifts: []int{math.MinInt, math.MaxInt}},
		{Shifts: []int{0, 0}, Slack: []int{math.MaxInt}, Mud: []int{math.MinInt}},
	}
	for _, b := range strange() {
		for i, n := range []int{math.MinInt, -1, 0, 1, math.MaxInt} {
			if one, other := all(b, n, cases[i]), all(b, n, cases[i]); one != other {
				t.Errorf("%d: %.300s, and then %.300s", n, one, other)
			}
		}
	}
	for _, s := range []string{"\x00", "\xff\n", "drag \xff 1 1", "drag - - -", "lead", " ", "\n\n", strings.Repeat(" ", 40000), strings.Repeat("9", 40001)} {
		if _, _, h := drag.Parse(s); h == api.Smooth {
			t.Errorf("Parse(%.20q): %v", s, h)
		}
	}
}

// P0.1: by whichever goroutines.
func TestGoroutines(t *testing.T) {
	b := adriftBook()
	c := api.DragCase{Wreck: sq(1, 1), Shifts: []int{1, 0}, Mud: []int{0}}
	want := all(b, 1, c)
	var group sync.WaitGroup
	for range 20 {
		group.Add(1)
		go func() {
			defer group.Done()
			if s := all(b, 1, c); s != want {
				t.Errorf("%s, want %s", s, want)
			}
		}()
	}
	group.Wait()
}

// P0.2: with a hitch of the book all other results are zero values, whatever else is handed in.
func TestBookFirst(t *testing.T) {
	for _, b := range strange() {
		want := drag.CheckBook(b)
		if want == api.Smooth {
			continue
		}
		model.CheckZero(t, want, func() (bool, api.Hitch) {
			l, h := drag.Swept(b, -1, 9)
			return l == nil, h
		}, func() (bool, api.Hitch) {
			is, h := drag.IsCase(b, api.DragCase{Wreck: sq(-1, -1)})
			return !is, h
		}, func() (bool, api.Hitch) {
			n, h := drag.Cases(b)
			return n == 0, h
		}, func() (bool, api.Hitch) {
			l, h := drag.Where(b)
			return l == nil, h
		}, func() (bool, api.Hitch) {
			u, h := drag.Lies(b, sq(-1, 0))
			return u == 0, h
		}, func() (bool, api.Hitch) {
			u, h := drag.Missed(b, -1)
			return u == 0, h
		}, func() (bool, api.Hitch) {
			l, h := drag.Shifts(b, -1)
			return l == nil, h
		}, func() (bool, api.Hitch) {
			u, h := drag.Muddy(b, sq(-1, 0))
			return u == 0, h
		}, func() (bool, api.Hitch) {
			l, h := drag.Unswept(b)
			return l == nil, h
		}, func() (bool, api.Hitch) {
			l, is, h := drag.Fewest(b, 0, 0)
			return l == nil && !is, h
		}, func() (bool, api.Hitch) {
			s, n, is, h := drag.Next(b, 0, 0)
			return s == sq(0, 0) && n == 0 && !is, h
		}, func() (bool, api.Hitch) {
			l, k, h := drag.Clash(b)
			return l == nil && k == nil, h
		}, func() (bool, api.Hitch) {
			o, h := drag.Drag(b, api.DragLine{Rows: reach(-1, -1), Tide: reach(9, 9)})
			return isZero(o), h
		}, func() (bool, api.Hitch) {
			o, h := drag.Sound(b, api.DragLead{At: sq(-1, -1), Brought: 9})
			return isZero(o), h
		}, func() (bool, api.Hitch) {
			o, h := drag.Steady(b, -1, reach(9, 0))
			return isZero(o), h
		}, func() (bool, api.Hitch) {
			o, h := drag.Taut(b, -1)
			return isZero(o), h
		}, func() (bool, api.Hitch) {
			s, h := drag.Print(b)
			return s == "", h
		})
	}
}

// P0.3, P2.5
func TestPrintedIsParsed(t *testing.T) {
	eachRandom(200, func(_ *rand.Rand, b api.DragBook) {
		s, h := drag.Print(b)
		if h != api.Smooth {
			t.Fatalf("Print(%v): %v", b, h)
		}
		for _, text := range []string{s, strings.TrimSuffix(s, "\n")} {
			if o, n, h := drag.Parse(text); !equal(o, b) || n != 0 || h != api.Smooth {
				t.Errorf("Parse(%q): %v, %d, %v", text, o, n, h)
			}
		}
	})
}

// R3
func TestEmpty(t *testing.T) {
	with := bookD()
	with.Rocks, with.Lines, with.Leads = []api.DragSquare{}, []api.DragLine{}, []api.DragLead{}
	without := bookD()
	without.Rocks, without.Lines, without.Leads = nil, nil, nil
	empty := api.DragCase{Wreck: sq(1, 1), Shifts: []int{}, Slack: []int{}, Mud: []int{}}
	if one, other := all(with, 0, empty), all(without, 0, api.DragCase{Wreck: sq(1, 1)}); one != other {
		t.Errorf("%s, and %s", one, other)
	}
}

// R4
func TestMemory(t *testing.T) {
	b := bookD()
	b.Lines = slices.Grow(b.Lines, 5)
	b.Leads = make([]api.DragLead, 0, 5)
	spareLine, spareLead := b.Lines[2:3], b.Leads[0:1]
	all(b, 1, api.DragCase{Wreck: sq(1, 1), Shifts: []int{1, 0}, Mud: []int{0}})
	dragged, _ := drag.Drag(b, freeLine())
	sounded, _ := drag.Sound(b, api.DragLead{At: sq(2, 1), Brought: api.DragMud})
	steadied, _ := drag.Steady(b, 0, reach(1, 1))
	taut, _ := drag.Taut(b, 0)
	for i, o := range []api.DragBook{dragged, sounded, steadied, taut} {
		if len(o.Ground) != 3 || len(o.Rocks) != 1 || len(o.Lines) < 2 {
			t.Fatalf("%d: %v", i, o)
		}
		o.Ground[0], o.Rocks[0] = "x", sq(9, 9)
		for k := range o.Lines {
			o.Lines[k] = api.DragLine{Touched: true, Tide: reach(9, 9)}
		}
		for k := range o.Leads {
			o.Leads[k].Brought = 9
		}
	}
	if !equal(b, bookD()) || spareLine[0] != (api.DragLine{}) || spareLead[0] != (api.DragLead{}) {
		t.Errorf("%v, %v, %v", b, spareLine, spareLead)
	}
}
