package finds_test

import (
	"fmt"
	"math"
	"math/rand"
	"slices"
	"strings"
	"sync"
	"testing"

	"lagan/api"
	"lagan/finds"
	"lagan/model"
)

// Tests of P0.1 to P0.3 and of the rules, as far as they speak of package finds.

// strange returns books of which most have a hitch.
func strange() []api.FindsBook {
	books := []api.FindsBook{{}, bookF(), plain(), adriftBook(), lacking(), three(), widest()}
	for _, n := range []int{math.MinInt, -1000, -2, -1, 0, 1, 2, 3, 4, 5, 100, math.MaxInt} {
		for _, change := range []func(b *api.FindsBook){
			func(b *api.FindsBook) { b.Strays = n },
			func(b *api.FindsBook) { b.Lines[0].Ship = n },
			func(b *api.FindsBook) { b.Lines[2].Ship = n },
			func(b *api.FindsBook) { b.Lines[1].Count = n },
			func(b *api.FindsBook) { b.Notes[0].A = n },
			func(b *api.FindsBook) { b.Notes[0].B = n },
			func(b *api.FindsBook) { b.Notes[0] = same(n, n) },
		} {
			b := bookF()
			change(&b)
			books = append(books, b)
		}
	}
	for _, s := range []string{"", "\xff", "a", "?", "ab", "????", "\u00e4", strings.Repeat("a", 100000), "b\n", "\x00"} {
		b, o := bookF(), bookF()
		b.Lines[1].Mark, o.Finds[1] = s, s
		books = append(books, b, o)
	}
	for _, change := range []func(b *api.FindsBook){
		func(b *api.FindsBook) { b.Lines = make([]api.FindsLine, 100000) },
		func(b *api.FindsBook) { b.Finds = make([]string, 100000) },
		func(b *api.FindsBook) { b.Notes = make([]api.FindsNote, 100000) },
	} {
		b := bookF()
		change(&b)
		books = append(books, b)
	}
	return books
}

// all tells what each function returns for a book.
func all(b api.FindsBook, n, m int, lines []int, s string) string {
	var told strings.Builder
	note := func(results ...any) { fmt.Fprintln(&told, results...) }
	note(finds.CheckBook(b))
	note(finds.Fits(b, n, m))
	note(finds.IsCase(b, lines))
	note(finds.Cases(b))
	note(finds.Lines(b, n))
	note(finds.Of(b, n, m))
	note(finds.Stray(b, n))
	note(finds.Many(b, n))
	note(finds.Total(b, n))
	note(finds.Ours(b))
	note(finds.Lost(b))
	note(finds.Fewest(b))
	note(finds.Clash(b))
	note(finds.Ask(b))
	note(finds.Clean(b, n, m, s))
	note(finds.Clean(b, 0, 1, s))
	note(finds.Note(b, api.FindsNote{A: n, B: m, Same: true}))
	note(finds.Note(b, other(m, n)))
	note(finds.Bring(b, s))
	note(finds.Print(b))
	return told.String()
}

// P0.1: whatever the functions are called with.
func TestAnything(t *testing.T) {
	lists := [][]int{nil, {0, 0, 1}, {math.MinInt, 0, math.MaxInt}, make([]int, 100000), {-1, -1, -1}}
	letters := []string{"a", "", "\xff", strings.Repeat("?", 100000), "?b"}
	others := []int{0, 1, math.MinInt, math.MaxInt, 100}
	for _, b := range strange() {
		for i, n := range []int{math.MinInt, 0, 1, -1, math.MaxInt} {
			if one, other := all(b, n, others[i], lists[i], letters[i]), all(b, n, others[i], lists[i], letters[i]); one != other {
				t.Errorf("%d: %.300s, and then %.300s", n, one, other)
			}
		}
	}
	for _, s := range []string{"\x00", "\xff\n", "finds \xff", "finds -", "line", "find", "note", " ", "\n\n", strings.Repeat(" ", 40000), strings.Repeat("9", 40001), small + strings.Repeat("find a\n", 4000)} {
		if _, _, h := finds.Parse(s); h == api.Smooth {
			t.Errorf("Parse(%.20q): %v", s, h)
		}
	}
}

// P0.1: by whichever goroutines.
func TestGoroutines(t *testing.T) {
	for _, b := range []api.FindsBook{bookF(), plain(), adriftBook(), lacking(), three()} {
		want := all(b, 0, 1, []int{0, 0, 1}, "b")
		var group sync.WaitGroup
		for range 20 {
			group.Add(1)
			go func() {
				defer group.Done()
				if s := all(b, 0, 1, []int{0, 0, 1}, "b"); s != want {
					t.Errorf("%s, want %s", s, want)
				}
			}()
		}
		group.Wait()
	}
}

// questions are the functions that need a case, and a book alone; each tells whether its results are zero values, and returns its hitch.
func questions(b api.FindsBook) []func() (bool, api.Hitch) {
	return []func() (bool, api.Hitch){func() (bool, api.Hitch) {
		sure, perhaps, h := finds.Ours(b)
		return sure == nil && perhaps == nil, h
	}, func() (bool, api.Hitch) {
		r, h := finds.Lost(b)
		return r == one(0), h
	}, func() (bool, api.Hitch) {
		find, place, left, h := finds.Ask(b)
		return find == 0 && place == 0 && left == 0, h
	}}
}

// withFind are the functions that need a case, and ask about a find; each tells whether its results are zero values, and returns its hitch.
func withFind(b api.FindsBook, find int) []func() (bool, api.Hitch) {
	return []func() (bool, api.Hitch){func() (bool, api.Hitch) {
		l, h := finds.Lines(b, find)
		return l == nil, h
	}, func() (bool, api.Hitch) {
		u, h := finds.Of(b, find, 0)
		return u == unsure, h
	}, func() (bool, api.Hitch) {
		u, h := finds.Stray(b, find)
		return u == unsure, h
	}}
}

// withLine are the functions that need a case, and ask about a line; each tells whether its results are zero values, and returns its hitch.
func withLine(b api.FindsBook, line int) []func() (bool, api.Hitch) {
	return []func() (bool, api.Hitch){func() (bool, api.Hitch) {
		r, h := finds.Many(b, line)
		return r == one(0), h
	}}
}

// withShip are the functions that need a case, and ask about a ship; each tells whether its results are zero values, and returns its hitch.
func withShip(b api.FindsBook, find, ship int) []func() (bool, api.Hitch) {
	return []func() (bool, api.Hitch){func() (bool, api.Hitch) {
		r, h := finds.Total(b, ship)
		return r == one(0), h
	}, func() (bool, api.Hitch) {
		u, h := finds.Of(b, find, ship)
		return u == unsure, h
	}}
}

// P0.2: with a hitch of the book all other results are zero values, whatever else is handed in.
func TestBookFirst(t *testing.T) {
	for _, b := range strange() {
		want := finds.CheckBook(b)
		if want == api.Smooth {
			continue
		}
		model.CheckZero(t, want, questions(b)...)
		model.CheckZero(t, want, withFind(b, -1)...)
		model.CheckZero(t, want, withLine(b, -1)...)
		model.CheckZero(t, want, withShip(b, -1, -1)...)
		model.CheckZero(t, want, func() (bool, api.Hitch) {
			is, h := finds.Fits(b, -1, -1)
			return !is, h
		}, func() (bool, api.Hitch) {
			is, h := finds.IsCase(b, []int{-2, 9, 9, 9, 9, 9})
			return !is, h
		}, func() (bool, api.Hitch) {
			n, h := finds.Cases(b)
			return n == 0, h
		}, func() (bool, api.Hitch) {
			strays, found, h := finds.Fewest(b)
			return strays == 0 && !found, h
		}, func() (bool, api.Hitch) {
			l, h := finds.Clash(b)
			return l == nil, h
		}, func() (bool, api.Hitch) {
			o, h := finds.Clean(b, -1, -1, "")
			return isZero(o), h
		}, func() (bool, api.Hitch) {
			o, h := finds.Note(b, same(-1, -1))
			return isZero(o), h
		}, func() (bool, api.Hitch) {
			o, h := finds.Bring(b, "")
			return isZero(o), h
		}, func() (bool, api.Hitch) {
			s, h := finds.Print(b)
			return s == "", h
		})
	}
}

// P0.3, P9.5
func TestPrintedIsParsed(t *testing.T) {
	eachRandom(200, func(_ *rand.Rand, b api.FindsBook) {
		s, h := finds.Print(b)
		if h != api.Smooth {
			t.Fatalf("Print(%v): %v", b, h)
		}
		for _, text := range []string{s, strings.TrimSuffix(s, "\n")} {
			if o, n, h := finds.Parse(text); !equal(o, b) || n != 0 || h != api.Smooth {
				t.Errorf("Parse(%q): %v, %d, %v", text, o, n, h)
			}
		}
	})
}

// R3
func TestEmpty(t *testing.T) {
	with, without := plain(), plain()
	with.Notes, without.Notes = []api.FindsNote{}, nil
	if one, other := all(with, 0, 1, []int{0, 0, 1}, "b"), all(without, 0, 1, []int{0, 0, 1}, "b"); one != other {
		t.Errorf("%s, and %s", one, other)
	}
	with.Finds, without.Finds = []string{}, nil
	if one, other := all(with, 0, 1, []int{}, "a"), all(without, 0, 1, nil, "a"); one != other {
		t.Errorf("%s, and %s", one, other)
	}
	bare := api.FindsBook{Lines: []api.FindsLine{}, Finds: []string{}, Notes: []api.FindsNote{}}
	if one, other := all(bare, 0, 1, []int{}, ""), all(api.FindsBook{}, 0, 1, nil, ""); one != other {
		t.Errorf("%s, and %s", one, other)
	}
	if one, other := all(bookF(), 0, 1, []int{}, ""), all(bookF(), 0, 1, nil, ""); one != other {
		t.Errorf("%s, and %s", one, other)
	}
}

// R4
func TestMemory(t *testing.T) {
	b := bookF()
	b.Lines, b.Finds, b.Notes = slices.Grow(b.Lines, 5), slices.Grow(b.Finds, 5), slices.Grow(b.Notes, 5)
	spareNote, spareFind := b.Notes[1:2], b.Finds[3:4]
	lines := []int{0, 0, 1}
	all(b, 0, 1, lines, "b")
	of, _ := finds.Lines(b, 0)
	sure, perhaps, _ := finds.Ours(b)
	clear(of)
	clear(sure)
	clear(perhaps)
	cleaned, h := finds.Clean(b, 0, 1, "c")
	more, g := finds.Note(b, same(0, 2))
	brought, k := finds.Bring(b, "zz")
	if h != api.Smooth || g != api.Smooth || k != api.Smooth {
		t.Errorf("%v, %v, %v", h, g, k)
	}
	for _, o := range []api.FindsBook{cleaned, more, brought} {
		clear(o.Lines)
		clear(o.Finds)
		clear(o.Notes)
	}
	if !equal(b, bookF()) || spareNote[0] != (api.FindsNote{}) || spareFind[0] != "" {
		t.Errorf("%v, %v, %v", b, spareNote, spareFind)
	}
	if !slices.Equal(lines, []int{0, 0, 1}) {
		t.Errorf("%v", lines)
	}
	// What is read is in memory of its own, too.
	p, _, _ := finds.Parse(textF)
	clear(p.Lines)
	clear(p.Finds)
	if again, _, _ := finds.Parse(textF); !equal(again, bookF()) {
		t.Errorf("%v", again)
	}
}
