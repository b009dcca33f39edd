package bell_test

import (
	"fmt"
	"math"
	"math/rand"
	"slices"
	"strings"
	"sync"
	"testing"

	"lagan/api"
	"lagan/bell"
	"lagan/model"
)

// Tests of P0.1 to P0.3 and of the rules, as far as they speak of package bell.

// strange returns books of which most have a hitch.
func strange() []api.BellBook {
	books := []api.BellBook{{}, bookB(), bookC(), adriftBook()}
	for _, n := range []int{math.MinInt, -1, 0, 1, 3, 9, 99, 100, math.MaxInt} {
		for _, change := range []func(b *api.BellBook){
			func(b *api.BellBook) { b.Room = n },
			func(b *api.BellBook) { b.Depth = n },
			func(b *api.BellBook) { b.Least = n },
			func(b *api.BellBook) { b.Minutes = n },
			func(b *api.BellBook) { b.Lamps = n },
			func(b *api.BellBook) { b.Cask = n },
			func(b *api.BellBook) { b.Casks = n },
			func(b *api.BellBook) { b.Pump = n },
			func(b *api.BellBook) { b.Leak.Least = n },
			func(b *api.BellBook) { b.Leak.Most = n },
			func(b *api.BellBook) { b.Pumped.Least = n },
			func(b *api.BellBook) { b.Pumped.Most = n },
			func(b *api.BellBook) { b.Men[0].Breath.Least = n },
			func(b *api.BellBook) { b.Men[1].Breath.Most = n },
			func(b *api.BellBook) { b.Sent = []int{n} },
			func(b *api.BellBook) { b.Sent = []int{1, n} },
			func(b *api.BellBook) { b.Marks[0].Minute = n },
			func(b *api.BellBook) { b.Marks[0].Dry.Least = n },
			func(b *api.BellBook) { b.Marks[0].Dry.Most = n },
		} {
			b := bookC()
			change(&b)
			books = append(books, b)
		}
	}
	for _, s := range []string{"", "\xff", "ann", strings.Repeat("a", 100000), "b\n"} {
		b := bookC()
		b.Men[1].Name = s
		books = append(books, b)
	}
	men, marks, plan := bookB(), bookB(), bookB()
	men.Men, marks.Marks, plan.Sent = make([]api.BellMan, 100000), make([]api.BellMark, 100000), make([]int, 100000)
	return append(books, men, marks, plan)
}

// all tells what each function returns for a book.
func all(b api.BellBook, n int, c api.BellCase, plan []int) string {
	var told strings.Builder
	note := func(results ...any) { fmt.Fprintln(&told, results...) }
	note(bell.CheckBook(b))
	note(bell.Dry(b, n))
	note(bell.Holds(b))
	note(bell.Play(b, c, plan))
	note(bell.IsCase(b, c))
	note(bell.Cases(b))
	note(bell.Leaks(b))
	note(bell.Breaths(b, n))
	note(bell.Air(b, plan, n))
	note(bell.Good(b, plan))
	note(bell.Bad(b, plan))
	note(bell.Fewest(b))
	note(bell.Latest(b))
	note(bell.Deepest(b, plan))
	note(bell.Crew(b, plan))
	note(bell.Clash(b))
	note(bell.Ask(b))
	note(bell.Mark(b, api.BellMark{Minute: n, Dry: reach(0, 99)}))
	note(bell.Breathe(b, n, one(4)))
	note(bell.Caulk(b, one(n)))
	note(bell.Send(b, n))
	note(bell.Print(b))
	return told.String()
}

// P0.1: whatever the functions are called with.
func TestAnything(t *testing.T) {
	cases := []api.BellCase{
		{},
		airCase(0, 3, 4),
		airCase(math.MinInt, math.MinInt, math.MaxInt),
		airCase(99, 99, 99),
		airCase(0, make([]int, 100000)...),
	}
	plans := [][]int{nil, {1, 3}, {math.MinInt, math.MaxInt}, make([]int, 100000), {2}}
	for _, b := range strange() {
		for i, n := range []int{math.MinInt, -1, 0, 1, math.MaxInt} {
			if one, other := all(b, n, cases[i], plans[i]), all(b, n, cases[i], plans[i]); one != other {
				t.Errorf("%d: %.300s, and then %.300s", n, one, other)
			}
		}
	}
	for _, s := range []string{"\x00", "\xff\n", "bell \xff 1", "bell - - - -", "air", "man", "mark", " ", "\n\n", strings.Repeat(" ", 40000), strings.Repeat("9", 40001), bellLine + "air 2 0:1 20 2 3 1:2 " + strings.Repeat("1,", 15000)} {
		if _, _, h := bell.Parse(s); h == api.Smooth {
			t.Errorf("Parse(%.20q): %v", s, h)
		}
	}
}

// P0.1: by whichever goroutines.
func TestGoroutines(t *testing.T) {
	for _, b := range []api.BellBook{bookB(), bookC(), adriftBook()} {
		c, plan := airCase(0, 3, 4), []int{1, 3}
		want := all(b, 1, c, plan)
		var group sync.WaitGroup
		for range 20 {
			group.Add(1)
			go func() {
				defer group.Done()
				if s := all(b, 1, c, plan); s != want {
					t.Errorf("%s, want %s", s, want)
				}
			}()
		}
		group.Wait()
	}
}

// questions are the functions that need a case, and a book alone; each tells whether its results are zero values, and returns its hitch.
func questions(b api.BellBook) []func() (bool, api.Hitch) {
	return []func() (bool, api.Hitch){func() (bool, api.Hitch) {
		l, h := bell.Leaks(b)
		return l == nil, h
	}, func() (bool, api.Hitch) {
		l, found, h := bell.Fewest(b)
		return l == nil && !found, h
	}, func() (bool, api.Hitch) {
		l, found, h := bell.Latest(b)
		return l == nil && !found, h
	}, func() (bool, api.Hitch) {
		man, left, h := bell.Ask(b)
		return man == 0 && left == 0, h
	}}
}

// P0.2: with a hitch of the book all other results are zero values, whatever else is handed in.
func TestBookFirst(t *testing.T) {
	c, plan := airCase(100, 99), []int{0, 0}
	for _, b := range strange() {
		want := bell.CheckBook(b)
		if want == api.Smooth {
			continue
		}
		model.CheckZero(t, want, planned(b, plan, -1)...)
		model.CheckZero(t, want, questions(b)...)
		model.CheckZero(t, want, func() (bool, api.Hitch) {
			n, h := bell.Dry(b, -1)
			return n == 0, h
		}, func() (bool, api.Hitch) {
			n, h := bell.Holds(b)
			return n == 0, h
		}, func() (bool, api.Hitch) {
			l, h := bell.Play(b, c, plan)
			return l == nil, h
		}, func() (bool, api.Hitch) {
			is, h := bell.IsCase(b, c)
			return !is, h
		}, func() (bool, api.Hitch) {
			n, h := bell.Cases(b)
			return n == 0, h
		}, func() (bool, api.Hitch) {
			l, h := bell.Breaths(b, -1)
			return l == nil, h
		}, func() (bool, api.Hitch) {
			l, h := bell.Clash(b)
			return l == nil, h
		}, func() (bool, api.Hitch) {
			o, h := bell.Mark(b, api.BellMark{})
			return isZero(o), h
		}, func() (bool, api.Hitch) {
			o, h := bell.Breathe(b, -1, reach(1, 0))
			return isZero(o), h
		}, func() (bool, api.Hitch) {
			o, h := bell.Caulk(b, reach(1, 0))
			return isZero(o), h
		}, func() (bool, api.Hitch) {
			o, h := bell.Send(b, 0)
			return isZero(o), h
		}, func() (bool, api.Hitch) {
			s, h := bell.Print(b)
			return s == "", h
		})
	}
}

// P0.3, P4.5
func TestPrintedIsParsed(t *testing.T) {
	eachRandom(200, func(_ *rand.Rand, b api.BellBook) {
		s, h := bell.Print(b)
		if h != api.Smooth {
			t.Fatalf("Print(%v): %v", b, h)
		}
		for _, text := range []string{s, strings.TrimSuffix(s, "\n")} {
			if o, n, h := bell.Parse(text); !equal(o, b) || n != 0 || h != api.Smooth {
				t.Errorf("Parse(%q): %v, %d, %v", text, o, n, h)
			}
		}
	})
}

// R3
func TestEmpty(t *testing.T) {
	with, without := bookB(), bookB()
	with.Men, with.Sent, with.Marks = []api.BellMan{}, []int{}, []api.BellMark{}
	without.Men, without.Sent, without.Marks = nil, nil, nil
	if one, other := all(with, 1, api.BellCase{Breaths: []int{}}, []int{}), all(without, 1, api.BellCase{}, nil); one != other {
		t.Errorf("%s, and %s", one, other)
	}
}

// R4
func TestMemory(t *testing.T) {
	b := sent(bookC(), 2)
	b.Men, b.Sent, b.Marks = slices.Grow(b.Men, 5), slices.Grow(b.Sent, 5), slices.Grow(b.Marks, 5)
	spareMan, spareSent, spareMark := b.Men[2:3], b.Sent[1:2], b.Marks[1:2]
	c, plan := airCase(0, 3, 4), append(make([]int, 0, 9), 1, 3)
	all(b, 3, c, plan)
	first, _, _ := bell.Fewest(b)
	last, _, _ := bell.Latest(b)
	for _, l := range [][]int{first, last} {
		for i := range l {
			l[i] = 99
		}
	}
	var books []api.BellBook
	for _, call := range []func() (api.BellBook, api.Hitch){
		func() (api.BellBook, api.Hitch) { return bell.Mark(b, api.BellMark{Minute: 1, Dry: one(11)}) },
		func() (api.BellBook, api.Hitch) { return bell.Breathe(b, 0, one(4)) },
		func() (api.BellBook, api.Hitch) { return bell.Caulk(b, one(1)) },
		func() (api.BellBook, api.Hitch) { return bell.Send(b, 3) },
	} {
		o, h := call()
		if h != api.Smooth || len(o.Men) != 2 || len(o.Sent) < 1 || len(o.Marks) < 1 {
			t.Fatalf("%v, %v", o, h)
		}
		books = append(books, o)
	}
	for _, o := range books {
		clear(o.Men)
		clear(o.Sent)
		clear(o.Marks)
	}
	if !equal(b, sent(bookC(), 2)) || spareMan[0] != (api.BellMan{}) || spareSent[0] != 0 || spareMark[0] != (api.BellMark{}) {
		t.Errorf("%v, %v, %v, %v", b, spareMan, spareSent, spareMark)
	}
	if !slices.Equal(plan[:4], []int{1, 3, 0, 0}) || !slices.Equal(c.Breaths, []int{3, 4}) {
		t.Errorf("%v, %v", plan, c)
	}
}
