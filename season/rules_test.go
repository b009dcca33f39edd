package season_test

import (
	"fmt"
	"math"
	"slices"
	"strings"
	"sync"
	"testing"

	"lagan/api"
	"lagan/model"
	"lagan/season"
)

// Tests of P0.1 to P0.3 and of the rules, as far as they speak of package season.

// strange returns books of which most have a hitch.
func strange() []api.SeasonBook {
	books := []api.SeasonBook{{}, bookY(), widest(), chosen([all]int{3, 4, 3, 4, 3, 4, 4, 3, 3, 3})}
	for _, x := range wrongBooks() {
		books = append(books, changed(x.change))
	}
	for _, n := range []int{math.MinInt, -1, 0, 10, 101, 100000, math.MaxInt} {
		for _, change := range []func(b *api.SeasonBook){
			func(b *api.SeasonBook) { b.Award.Value.Least = n },
			func(b *api.SeasonBook) { b.Award.Value.Most = n },
			func(b *api.SeasonBook) { b.Award.Value = one(n) },
			func(b *api.SeasonBook) { b.Award.Crown = n },
			func(b *api.SeasonBook) { b.Award.Owner = n },
			func(b *api.SeasonBook) { b.Award.Men[0].Shares = n },
			func(b *api.SeasonBook) { b.Bell.Minutes = n },
			func(b *api.SeasonBook) { b.Hull.Limit = n },
		} {
			books = append(books, changed(change))
		}
	}
	for _, change := range []func(b *api.SeasonBook){
		func(b *api.SeasonBook) { b.Award.Men = make([]api.SeasonMan, 100000) },
		func(b *api.SeasonBook) { b.Finds.Finds = make([]string, 100000) },
		func(b *api.SeasonBook) { b.Chart.Witnesses = make([]api.BearingWitness, 100000) },
		func(b *api.SeasonBook) { b.Award.Men[0].Name = strings.Repeat("a", 100000) },
		func(b *api.SeasonBook) { b.Award.Men[0].Name = "\xff" },
	} {
		books = append(books, changed(change))
	}
	return books
}

// told tells what each function with a book returns.
func told(b api.SeasonBook, n int, l []api.SeasonEntry, q api.SeasonAsk, proof []int, text string) string {
	var told strings.Builder
	note := func(results ...any) { fmt.Fprintln(&told, results...) }
	note(season.CheckBook(b))
	note(season.Write(b))
	note(season.Differ(b, bookY()))
	note(season.Differ(bookY(), b))
	note(season.Cases(b))
	note(season.Shares(b, n))
	note(season.Share(b, n))
	for _, e := range l[:min(len(l), 10)] {
		note(season.Do(b, e))
	}
	note(season.Play(b, l))
	note(season.Stands(b, l))
	note(season.Why(b, l, n))
	note(season.Why(b, l, len(l)))
	note(season.Ask(b, q))
	note(season.Judge(b, q, proof))
	note(season.Clerk(b, text))
	return told.String()
}

// toldAlone tells what each function without a book returns.
func toldAlone(text string, e api.SeasonEntry) string {
	var told strings.Builder
	note := func(results ...any) { fmt.Fprintln(&told, results...) }
	note(season.Sum(text))
	note(season.Read(text))
	note(season.Put(e))
	note(season.Take(text))
	return told.String()
}

// strangeEntries returns one of each kind, and of kinds that are none, with a number in each field.
func strangeEntries(n int) []api.SeasonEntry {
	var l []api.SeasonEntry
	for kind := api.SeasonKind(-1); int(kind) <= len(rows()); kind++ {
		l = append(l, api.SeasonEntry{Kind: kind, A: n}, api.SeasonEntry{Kind: kind, M: one(n)}, api.SeasonEntry{Kind: kind, A: n, B: n, C: n, M: one(n), S: "\xff"}, api.SeasonEntry{Hand: n, Kind: kind})
		for _, field := range strings.Fields("A B C M S") {
			e := api.SeasonEntry{Kind: kind, A: n, B: n, C: n, M: reach(n, -n), S: "??"}
			if int(kind) < 0 || int(kind) >= len(rows()) || strings.Contains(rows()[kind][1], field) {
				continue
			}
			switch field {
			case "A":
				e.A = 0
			case "B":
				e.B = 0
			case "C":
				e.C = 0
			case "M":
				e.M = one(0)
			case "S":
				e.S = ""
			}
			l = append(l, e)
		}
	}
	return append(l, api.SeasonEntry{Kind: math.MaxInt}, api.SeasonEntry{Kind: math.MinInt})
}

// P0.1: whatever the functions are called with.
func TestAnything(t *testing.T) {
	proofs := [][]int{nil, {0, 1}, {math.MinInt, math.MaxInt}, slices.Repeat([]int{-1}, 100000), make([]int, 100000)}
	texts := []string{"", "\xff\n\x00", strings.Repeat("ask plan 1\n", 10), "judge rota 0 " + strings.Repeat("-1,", 12000) + "-1", strings.Repeat(" ", 50000)}
	for i, n := range []int{0, 1, -1, math.MinInt, math.MaxInt} {
		entries := strangeEntries(n)
		for j, b := range strange() {
			from := (7 * j) % len(entries)
			l := entries[from:min(from+10, len(entries))]
			q := api.SeasonAsk{Kind: api.SeasonQuestion((i+j)%9 - 1), A: n}
			if one, other := told(b, n, l, q, proofs[i], texts[i]), told(b, n, l, q, proofs[i], texts[i]); one != other {
				t.Errorf("%d: %.300s, and then %.300s", n, one, other)
			}
		}
		for _, e := range entries {
			if one, other := toldAlone(texts[i], e), toldAlone(texts[i], e); one != other {
				t.Errorf("%v: %s, and then %s", e, one, other)
			}
			if o, h := season.Do(bookY(), e); h != smooth && !isZero(o) {
				t.Errorf("Do(%v): %v, %v", e, o, h)
			}
		}
		for kind := range api.SeasonQuestion(7) {
			for _, proof := range proofs {
				season.Judge(bookY(), ask(kind, n), proof)
				season.Judge(bookY(), ask(kind, 0), proof)
			}
		}
		told(bookY(), n, make([]api.SeasonEntry, 100000), ask(0, n), nil, "")
	}
	for _, s := range []string{"begin", "end", "begin \xff\n", "begin bearing\nend bearing \xff", strings.Repeat("\n", 40000), strings.Repeat("end\n", 10000), strings.Repeat("begin bearing\n", 2800)} {
		if b, _, h := season.Read(s); h == smooth || !isZero(b) {
			t.Errorf("Read(%.20q): %v", s, h)
		}
	}
}

// someLines are some for a clerk.
const someLines = "ask plan 2\nentry 0 lift 2 0 0 0 -\njudge order 0 0,1\nask settled 4\nentry 0 strike 1 0 0 0 -\njudge settled 2 -\nshare 7\n"

// P0.1: by whichever goroutines.
func TestGoroutines(t *testing.T) {
	for _, b := range []api.SeasonBook{bookY(), widest(), changed(wrongBooks()[4].change)} {
		tell := func() string {
			return told(b, 1, journalJ(), ask(api.SeasonPlan, 2), []int{1, 3}, someLines) + toldAlone(bookText(b), journalJ()[1])
		}
		want := tell()
		var group sync.WaitGroup
		for range 20 {
			group.Add(1)
			go func() {
				defer group.Done()
				if s := tell(); s != want {
					t.Errorf("%s, want %s", s, want)
				}
			}()
		}
		group.Wait()
	}
}

// withBook are the functions with a book, and with wrong values beside it; each tells whether its results are zero values, and returns its hitch.
func withBook(b api.SeasonBook) []func() (bool, api.Hitch) {
	wrong := make([]api.SeasonEntry, 11)
	return []func() (bool, api.Hitch){func() (bool, api.Hitch) {
		return true, season.CheckBook(b)
	}, func() (bool, api.Hitch) {
		s, h := season.Write(b)
		return s == "", h
	}, func() (bool, api.Hitch) {
		l, h := season.Differ(b, api.SeasonBook{})
		return l == nil, h
	}, func() (bool, api.Hitch) {
		l, h := season.Differ(bookY(), b)
		return l == nil, h
	}, func() (bool, api.Hitch) {
		l, h := season.Cases(b)
		return l == nil, h
	}, func() (bool, api.Hitch) {
		l, h := season.Shares(b, -1)
		return l == nil, h
	}, func() (bool, api.Hitch) {
		r, h := season.Share(b, -1)
		return r == one(0), h
	}, func() (bool, api.Hitch) {
		o, h := season.Do(b, api.SeasonEntry{Kind: -1})
		return isZero(o), h
	}, func() (bool, api.Hitch) {
		l, now, h := season.Play(b, wrong)
		return l == nil && isZero(now), h
	}, func() (bool, api.Hitch) {
		l, h := season.Stands(b, wrong)
		return l == nil, h
	}, func() (bool, api.Hitch) {
		l, found, h := season.Why(b, wrong, -1)
		return l == nil && !found, h
	}, func() (bool, api.Hitch) {
		yes, l, h := season.Ask(b, ask(-1, -1))
		return !yes && l == nil, h
	}, func() (bool, api.Hitch) {
		is, h := season.Judge(b, ask(-1, -1), nil)
		return !is, h
	}, func() (bool, api.Hitch) {
		s, now, h := season.Clerk(b, strings.Repeat("x", 40001))
		return s == "" && isZero(now), h
	}}
}

// P0.2: with a hitch of the book all other results are zero values, whatever else is handed in.
func TestBookFirst(t *testing.T) {
	for _, b := range strange() {
		if want := season.CheckBook(b); want != smooth {
			model.CheckZero(t, want, withBook(b)...)
		}
	}
}

// P0.3
func TestWrittenIsRead(t *testing.T) {
	for _, b := range []api.SeasonBook{bookY(), widest(), awarded(awards()[1])} {
		s, h := season.Write(b)
		if h != smooth {
			t.Fatalf("Write(%v): %v", b, h)
		}
		for _, text := range []string{s, strings.TrimSuffix(s, "\n")} {
			if o, line, h := season.Read(text); !equal(o, b) || line != 0 || h != smooth {
				t.Errorf("Read(%q): %v, %d, %v", text, o, line, h)
			}
		}
	}
}

// bare is a book of which nothing is there that can be left out.
func bare() api.SeasonBook {
	b := chosen([all]int{1, 1, 1, 5, 2, 2, 2, 1, 2, 1})
	b.Finds.Strays = 0
	return b
}

// filled returns a book whose slices that have no elements are not nil.
func filled(b api.SeasonBook) api.SeasonBook {
	b.Chart.Witnesses = append([]api.BearingWitness{}, b.Chart.Witnesses...)
	b.Drag.Rocks, b.Drag.Lines, b.Drag.Leads = append([]api.DragSquare{}, b.Drag.Rocks...), append([]api.DragLine{}, b.Drag.Lines...), append([]api.DragLead{}, b.Drag.Leads...)
	b.Slack.Watches = append([]api.SlackWatch{}, b.Slack.Watches...)
	b.Bell.Men, b.Bell.Sent, b.Bell.Marks = append([]api.BellMan{}, b.Bell.Men...), append([]int{}, b.Bell.Sent...), append([]api.BellMark{}, b.Bell.Marks...)
	b.Stint.Soundings = append([]api.StintSounding{}, b.Stint.Soundings...)
	b.Hull.Out, b.Hull.Heels = append([]int{}, b.Hull.Out...), append([]api.HullHeel{}, b.Hull.Heels...)
	b.Tackle.Tests = append([]api.TackleTest{}, b.Tackle.Tests...)
	b.Mooring.Nights = append([]api.MooringNight{}, b.Mooring.Nights...)
	b.Finds.Finds, b.Finds.Notes = append([]string{}, b.Finds.Finds...), append([]api.FindsNote{}, b.Finds.Notes...)
	b.Award.Men = append([]api.SeasonMan{}, b.Award.Men...)
	return b
}

// R3
func TestEmpty(t *testing.T) {
	for _, b := range []api.SeasonBook{bare(), bookY(), {}} {
		tell := func(b api.SeasonBook) string {
			return told(b, 1, journalJ(), ask(api.SeasonOurs, 0), []int{}, someLines)
		}
		if one, other := tell(b), tell(filled(b)); one != other {
			t.Errorf("%s, and %s", one, other)
		}
		if l, h := season.Differ(b, filled(b)); len(l) > 0 || h != season.CheckBook(b) {
			t.Error(l, h)
		}
		if one, other := told(b, 1, nil, ask(api.SeasonSettled, 2), nil, ""), told(b, 1, []api.SeasonEntry{}, ask(api.SeasonSettled, 2), []int{}, ""); one != other {
			t.Errorf("%s, and %s", one, other)
		}
	}
}

// cleared clears all that slices of a book have.
func cleared(b api.SeasonBook) {
	for _, p := range b.Hull.Pieces {
		clear(p.On)
	}
	for _, g := range b.Tackle.Gears {
		clear(g)
	}
	clear(b.Chart.Compasses)
	clear(b.Chart.Witnesses)
	clear(b.Drag.Ground)
	clear(b.Drag.Rocks)
	clear(b.Drag.Lines)
	clear(b.Drag.Leads)
	clear(b.Slack.Turns)
	clear(b.Slack.Watches)
	clear(b.Bell.Men)
	clear(b.Bell.Sent)
	clear(b.Bell.Marks)
	clear(b.Stint.Rows)
	clear(b.Stint.Places)
	clear(b.Stint.Men)
	clear(b.Stint.Dives)
	clear(b.Stint.Soundings)
	clear(b.Hull.Pieces)
	clear(b.Hull.Out)
	clear(b.Hull.Heels)
	clear(b.Tackle.Parts)
	clear(b.Tackle.Gears)
	clear(b.Tackle.Pieces)
	clear(b.Tackle.Tests)
	clear(b.Mooring.Anchors)
	clear(b.Mooring.Grounds)
	clear(b.Mooring.Winds)
	clear(b.Mooring.Nights)
	clear(b.Finds.Lines)
	clear(b.Finds.Finds)
	clear(b.Finds.Notes)
	clear(b.Award.Men)
}

// full is a book in which each slice has elements.
func full() api.SeasonBook {
	return chosen([all]int{0, 0, 0, 2, 1, 1, 1, 2, 0, 0})
}

// R4
func TestMemory(t *testing.T) {
	fill := func() api.SeasonBook {
		b := full()
		b.Drag.Leads = []api.DragLead{{At: api.DragSquare{Row: 2, Lane: 1}, Brought: api.DragMud}}
		b.Bell.Sent = []int{1}
		b.Bell.Marks[0].Dry = reach(0, 99)
		b.Drag.Rocks[0].Lane, b.Hull.Pieces[2].On[0] = 1, 1
		return b
	}
	b := fill()
	if h := season.CheckBook(b); h != smooth {
		t.Fatal(h)
	}
	results := func(b api.SeasonBook) (books []api.SeasonBook) {
		for _, e := range []api.SeasonEntry{entry(api.SeasonTrust, 0, 0, 0), sign("dee", 1), of(api.SeasonValue, 0, one(100)), entry(api.SeasonWatch, 44, 0, 0)} {
			o, h := season.Do(b, e)
			if h != smooth {
				t.Fatal(e, h)
			}
			books = append(books, o)
		}
		_, played, _ := season.Play(b, nil)
		_, struck, _ := season.Play(b, []api.SeasonEntry{sign("dee", 1), strike(0, 1)})
		_, clerks, _ := season.Clerk(b, "")
		_, signed, _ := season.Clerk(b, "entry 0 sign 1 0 0 0 dee")
		return append(books, played, struck, clerks, signed)
	}
	for i, o := range results(b) {
		cleared(o)
		if !equal(b, fill()) {
			t.Fatalf("%d: what was returned shares memory: %v", i, b)
		}
	}
	// Nor is anything written behind the elements of what is handed in.
	b.Award.Men = slices.Grow(b.Award.Men, 2)
	spare := b.Award.Men[3:4]
	l := slices.Grow(journalJ(), 5)
	proof := []int{1, 3}
	told(b, 1, l, ask(api.SeasonPlan, 2), proof, "entry 0 sign 1 0 0 0 dee\n"+someLines)
	results(b)
	if !equal(b, fill()) || spare[0] != (api.SeasonMan{}) || l[:7][6] != (api.SeasonEntry{}) || !slices.Equal(l, journalJ()) || !slices.Equal(proof, []int{1, 3}) {
		t.Errorf("%v, %v, %v, %v", b, spare, l, proof)
	}
	// Lists that are returned are new ones each time.
	for _, tell := range []func() []int{
		func() []int { l, _ := season.Cases(b); return l },
		func() []int { l, _ := season.Shares(b, 7); return l },
		func() []int { l, _ := season.Stands(b, journalJ()); return l },
		func() []int { _, l, _ := season.Ask(b, ask(api.SeasonOrder, 0)); return l },
		func() []int { l, _, _ := season.Why(bookY(), journalJ(), 5); return l },
	} {
		one := tell()
		want := slices.Clone(one)
		clear(one)
		if other := tell(); !slices.Equal(other, want) || len(want) == 0 {
			t.Errorf("%v, and then %v", want, other)
		}
	}
}
