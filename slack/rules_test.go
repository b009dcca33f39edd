package slack_test

import (
	"fmt"
	"math"
	"math/rand"
	"slices"
	"strings"
	"sync"
	"testing"

	"lagan/api"
	"lagan/model"
	"lagan/slack"
)

// Tests of P0.1 to P0.3 and of the rules, as far as they speak of package slack.

// strange returns books of which most have a hitch.
func strange() []api.SlackBook {
	books := []api.SlackBook{{}, bookS(), adriftBook()}
	for _, n := range []int{math.MinInt, -10, -1, 0, 1, 10, 200, math.MaxInt} {
		for _, change := range []func(b *api.SlackBook){
			func(b *api.SlackBook) { b.Shift.Least = n },
			func(b *api.SlackBook) { b.Shift.Most = n },
			func(b *api.SlackBook) { b.Clock.Least = n },
			func(b *api.SlackBook) { b.Clock.Most = n },
			func(b *api.SlackBook) { b.Turns[0].At = n },
			func(b *api.SlackBook) { b.Turns[1].At = n },
			func(b *api.SlackBook) { b.Turns[1].Half.Least = n },
			func(b *api.SlackBook) { b.Turns[1].Half.Most = n },
			func(b *api.SlackBook) { b.Watches[0].At = n },
		} {
			b := bookS()
			change(&b)
			books = append(books, b)
		}
	}
	turns, watches := bookS(), bookS()
	turns.Turns, watches.Watches = make([]api.SlackTurn, 100000), make([]api.SlackWatch, 100000)
	return append(books, turns, watches)
}

// all tells what each function returns for a book.
func all(b api.SlackBook, n int, c api.SlackCase, works []int) string {
	var told strings.Builder
	note := func(results ...any) { fmt.Fprintln(&told, results...) }
	note(slack.CheckBook(b))
	note(slack.Windows(b, c))
	note(slack.IsCase(b, c))
	note(slack.Cases(b))
	note(slack.Shift(b))
	note(slack.Clock(b))
	note(slack.Half(b, n))
	note(slack.At(b, n))
	note(slack.Sure(b))
	note(slack.Perhaps(b))
	note(slack.Longest(b))
	note(slack.Starts(b, c, works))
	note(slack.Many(b, works))
	note(slack.Plan(b, works))
	note(slack.Late(b, works))
	note(slack.Clash(b))
	note(slack.Ask(b))
	note(slack.Watch(b, api.SlackWatch{At: n}))
	note(slack.Blow(b, reach(n, n)))
	note(slack.Print(b))
	return told.String()
}

// P0.1: whatever the functions are called with.
func TestAnything(t *testing.T) {
	cases := []api.SlackCase{
		{},
		tideCase(0, 0, 3, 1),
		tideCase(math.MinInt, math.MaxInt, math.MinInt, math.MaxInt),
		tideCase(9, -5, 9, 9),
		tideCase(0, 0, make([]int, 100000)...),
	}
	works := [][]int{nil, {1, 20, 3}, {math.MinInt, math.MaxInt}, make([]int, 100000), {7, 7, 7, 7, 7, 7}}
	for _, b := range strange() {
		for i, n := range []int{math.MinInt, -1, 0, 1, math.MaxInt} {
			if one, other := all(b, n, cases[i], works[i]), all(b, n, cases[i], works[i]); one != other {
				t.Errorf("%d: %.300s, and then %.300s", n, one, other)
			}
		}
	}
	for _, s := range []string{"\x00", "\xff\n", "slack \xff 1", "slack - -", "turn", "watch", " ", "\n\n", strings.Repeat(" ", 40000), strings.Repeat("9", 40001)} {
		if _, _, h := slack.Parse(s); h == api.Smooth {
			t.Errorf("Parse(%.20q): %v", s, h)
		}
	}
}

// P0.1: by whichever goroutines.
func TestGoroutines(t *testing.T) {
	for _, b := range []api.SlackBook{bookS(), adriftBook()} {
		c, works := tideCase(0, 0, 3, 1), []int{3, 2, 2}
		want := all(b, 1, c, works)
		var group sync.WaitGroup
		for range 20 {
			group.Add(1)
			go func() {
				defer group.Done()
				if s := all(b, 1, c, works); s != want {
					t.Errorf("%s, want %s", s, want)
				}
			}()
		}
		group.Wait()
	}
}

// P0.2: with a hitch of the book all other results are zero values, whatever else is handed in.
func TestBookFirst(t *testing.T) {
	c, works := tideCase(99, 99, 99), []int{0, 99}
	for _, b := range strange() {
		want := slack.CheckBook(b)
		if want == api.Smooth {
			continue
		}
		model.CheckZero(t, want, questions(b, -1, works)...)
		model.CheckZero(t, want, func() (bool, api.Hitch) {
			l, h := slack.Windows(b, c)
			return l == nil, h
		}, func() (bool, api.Hitch) {
			is, h := slack.IsCase(b, c)
			return !is, h
		}, func() (bool, api.Hitch) {
			n, h := slack.Cases(b)
			return n == 0, h
		}, func() (bool, api.Hitch) {
			l, h := slack.Starts(b, c, works)
			return l == nil, h
		}, func() (bool, api.Hitch) {
			l, h := slack.Clash(b)
			return l == nil, h
		}, func() (bool, api.Hitch) {
			o, h := slack.Watch(b, api.SlackWatch{At: -1})
			return isZero(o), h
		}, func() (bool, api.Hitch) {
			o, h := slack.Blow(b, reach(99, 0))
			return isZero(o), h
		}, func() (bool, api.Hitch) {
			s, h := slack.Print(b)
			return s == "", h
		})
	}
}

// questions are the functions that need a case; each tells whether its results are zero values, and returns its hitch.
func questions(b api.SlackBook, n int, works []int) []func() (bool, api.Hitch) {
	return []func() (bool, api.Hitch){func() (bool, api.Hitch) {
		l, h := slack.Shift(b)
		return l == nil, h
	}, func() (bool, api.Hitch) {
		l, h := slack.Clock(b)
		return l == nil, h
	}, func() (bool, api.Hitch) {
		l, h := slack.Half(b, n)
		return l == nil, h
	}, func() (bool, api.Hitch) {
		u, h := slack.At(b, n)
		return u == 0, h
	}, func() (bool, api.Hitch) {
		l, h := slack.Sure(b)
		return l == nil, h
	}, func() (bool, api.Hitch) {
		l, h := slack.Perhaps(b)
		return l == nil, h
	}, func() (bool, api.Hitch) {
		x, found, h := slack.Longest(b)
		return x == reach(0, 0) && !found, h
	}, func() (bool, api.Hitch) {
		x, h := slack.Many(b, works)
		return x == reach(0, 0), h
	}, func() (bool, api.Hitch) {
		l, found, h := slack.Plan(b, works)
		return l == nil && !found, h
	}, func() (bool, api.Hitch) {
		l, found, h := slack.Late(b, works)
		return l == nil && !found, h
	}, func() (bool, api.Hitch) {
		tick, left, h := slack.Ask(b)
		return tick == 0 && left == 0, h
	}}
}

// P0.3, P3.5
func TestPrintedIsParsed(t *testing.T) {
	eachRandom(200, func(_ *rand.Rand, b api.SlackBook) {
		s, h := slack.Print(b)
		if h != api.Smooth {
			t.Fatalf("Print(%v): %v", b, h)
		}
		for _, text := range []string{s, strings.TrimSuffix(s, "\n")} {
			if o, n, h := slack.Parse(text); !equal(o, b) || n != 0 || h != api.Smooth {
				t.Errorf("Parse(%q): %v, %d, %v", text, o, n, h)
			}
		}
	})
}

// R3
func TestEmpty(t *testing.T) {
	with, without := bookS(), bookS()
	with.Watches, without.Watches = []api.SlackWatch{}, nil
	c := tideCase(0, 0, 3, 1)
	if one, other := all(with, 0, c, []int{}), all(without, 0, c, nil); one != other {
		t.Errorf("%s, and %s", one, other)
	}
	bare := api.SlackBook{Turns: []api.SlackTurn{}}
	if one, other := all(bare, 0, api.SlackCase{Halfs: []int{}}, nil), all(api.SlackBook{}, 0, api.SlackCase{}, nil); one != other {
		t.Errorf("%s, and %s", one, other)
	}
}

// R4
func TestMemory(t *testing.T) {
	b := bookS()
	b.Turns, b.Watches = slices.Grow(b.Turns, 5), slices.Grow(b.Watches, 5)
	spareTurn, spareWatch := b.Turns[2:3], b.Watches[1:2]
	c, works := tideCase(0, 0, 3, 1), []int{3, 2, 2}
	all(b, 1, c, works)
	watched, _ := slack.Watch(b, api.SlackWatch{At: 44})
	blown, _ := slack.Blow(b, reach(0, 0))
	for i, o := range []api.SlackBook{watched, blown} {
		if len(o.Turns) != 2 || len(o.Watches) < 1 {
			t.Fatalf("%d: %v", i, o)
		}
		for k := range o.Turns {
			o.Turns[k] = api.SlackTurn{At: 99}
		}
		for k := range o.Watches {
			o.Watches[k] = api.SlackWatch{At: 99}
		}
	}
	if !equal(b, bookS()) || spareTurn[0] != (api.SlackTurn{}) || spareWatch[0] != (api.SlackWatch{}) {
		t.Errorf("%v, %v, %v", b, spareTurn, spareWatch)
	}
	if !slices.Equal(works, []int{3, 2, 2}) || !slices.Equal(c.Halfs, []int{3, 1}) {
		t.Errorf("%v, %v", works, c)
	}
}
