package tackle_test

import (
	"math"
	"math/rand"
	"slices"
	"strings"
	"testing"

	"lagan/api"
	"lagan/model"
	"lagan/tackle"
)

// Tests of P7.1 to P7.5: what each function returns.

const (
	unsure = api.Unsure
	surely = api.Surely
	never  = api.Never
)

// parts returns parts with names.
func parts(names ...string) []api.TacklePart {
	var all []api.TacklePart
	for _, s := range names {
		all = append(all, api.TacklePart{Name: s})
	}
	return all
}

// pieces returns pieces with names.
func pieces(names ...string) []api.TacklePiece {
	var all []api.TacklePiece
	for _, s := range names {
		all = append(all, api.TacklePiece{Name: s, Weight: one(1)})
	}
	return all
}

// chain is a book with a gear of all parts, each of which has four sheaves; all of it is as strong as can be.
func chain() api.TackleBook {
	b := api.TackleBook{Winch: 99, Parts: parts("a", "b", "c", "d"), Gears: [][]int{{0, 1, 2, 3}, {3, 2, 1, 0}, {2}}, Pieces: pieces("a", "b", "c")}
	for i := range b.Parts {
		b.Parts[i].Sheaves, b.Parts[i].Bears = 4, reach(97, 99)
	}
	for i := range b.Pieces {
		b.Pieces[i].Weight = reach(97, 99)
	}
	return b
}

// pair is a book with two parts that bear 5 and 6, two gears, of both and of the second one, and a piece of 7.
func pair() api.TackleBook {
	return api.TackleBook{
		Winch: 99, Parts: []api.TacklePart{{Name: "a", Bears: one(5)}, {Name: "b", Bears: one(6)}},
		Gears: [][]int{{0, 1}, {1}}, Pieces: []api.TacklePiece{{Name: "p", Weight: one(7)}},
	}
}

func TestCheckBook(t *testing.T) {
	for name, x := range map[string]struct {
		change func(b *api.TackleBook)
		want   api.Hitch
	}{
		"H":                         {func(b *api.TackleBook) {}, api.Smooth},
		"winch below":               {func(b *api.TackleBook) { b.Winch = -1 }, api.Bounds},
		"least winch":               {func(b *api.TackleBook) { b.Winch = 0 }, api.Smooth},
		"greatest winch":            {func(b *api.TackleBook) { b.Winch = 99 }, api.Smooth},
		"winch above":               {func(b *api.TackleBook) { b.Winch = 100 }, api.Bounds},
		"any winch":                 {func(b *api.TackleBook) { b.Winch = math.MinInt }, api.Bounds},
		"no parts":                  {func(b *api.TackleBook) { b.Parts = nil }, api.Number},
		"one part":                  {func(b *api.TackleBook) { b.Parts, b.Gears = parts("a"), [][]int{{0}} }, api.Smooth},
		"four parts":                {func(b *api.TackleBook) { b.Parts = parts("a", "b", "c", "d") }, api.Smooth},
		"five parts":                {func(b *api.TackleBook) { b.Parts = parts("a", "b", "c", "d", "e") }, api.Number},
		"no name":                   {func(b *api.TackleBook) { b.Parts[0].Name = "" }, api.Label},
		"a name that is no label":   {func(b *api.TackleBook) { b.Parts[1].Name = "Luff" }, api.Label},
		"a name with a blank":       {func(b *api.TackleBook) { b.Parts[1].Name = "a luff" }, api.Label},
		"a name that begins wrong":  {func(b *api.TackleBook) { b.Parts[1].Name = "2luff" }, api.Label},
		"a longest name":            {func(b *api.TackleBook) { b.Parts[1].Name = "abcdefghijk9" }, api.Smooth},
		"a longer name":             {func(b *api.TackleBook) { b.Parts[1].Name = "abcdefghijklm" }, api.Label},
		"a name twice":              {func(b *api.TackleBook) { b.Parts[1].Name = "sling" }, api.Double},
		"a name twice, apart":       {func(b *api.TackleBook) { b.Parts[2].Name = "sling" }, api.Double},
		"no sheaves":                {func(b *api.TackleBook) { b.Parts[1].Sheaves = 0 }, api.Smooth},
		"four sheaves":              {func(b *api.TackleBook) { b.Parts[1].Sheaves = 4 }, api.Smooth},
		"five sheaves":              {func(b *api.TackleBook) { b.Parts[1].Sheaves = 5 }, api.Bounds},
		"sheaves below":             {func(b *api.TackleBook) { b.Parts[1].Sheaves = -1 }, api.Bounds},
		"any sheaves":               {func(b *api.TackleBook) { b.Parts[1].Sheaves = math.MaxInt }, api.Bounds},
		"bears least":               {func(b *api.TackleBook) { b.Parts[1].Bears = reach(0, 2) }, api.Smooth},
		"bears most":                {func(b *api.TackleBook) { b.Parts[1].Bears = reach(97, 99) }, api.Smooth},
		"bears less":                {func(b *api.TackleBook) { b.Parts[1].Bears = reach(-1, 0) }, api.Bounds},
		"bears more":                {func(b *api.TackleBook) { b.Parts[1].Bears = reach(99, 100) }, api.Bounds},
		"bears turned":              {func(b *api.TackleBook) { b.Parts[1].Bears = reach(5, 4) }, api.Bounds},
		"bears one of four numbers": {func(b *api.TackleBook) { b.Parts[1].Bears = reach(5, 8) }, api.Bounds},
		"bears anything":            {func(b *api.TackleBook) { b.Parts[1].Bears = reach(math.MinInt, math.MaxInt) }, api.Bounds},
		"no gears":                  {func(b *api.TackleBook) { b.Gears = nil }, api.Number},
		"three gears":               {func(b *api.TackleBook) { b.Gears = append(b.Gears, []int{1}) }, api.Smooth},
		"four gears":                {func(b *api.TackleBook) { b.Gears = append(b.Gears, []int{1}, []int{2}) }, api.Number},
		"a gear twice":              {func(b *api.TackleBook) { b.Gears[1] = b.Gears[0] }, api.Smooth},
		"a gear without parts":      {func(b *api.TackleBook) { b.Gears[1] = nil }, api.Number},
		"a gear of one part":        {func(b *api.TackleBook) { b.Gears[1] = []int{1} }, api.Smooth},
		"a gear in any order":       {func(b *api.TackleBook) { b.Gears[1] = []int{2, 0, 1} }, api.Smooth},
		"a part that is not there":  {func(b *api.TackleBook) { b.Gears[1] = []int{0, 3} }, api.Missing},
		"a part below":              {func(b *api.TackleBook) { b.Gears[1] = []int{-1} }, api.Missing},
		"any part":                  {func(b *api.TackleBook) { b.Gears[0][2] = math.MinInt }, api.Missing},
		"a part twice":              {func(b *api.TackleBook) { b.Gears[1] = []int{2, 2} }, api.Double},
		"a part twice, apart":       {func(b *api.TackleBook) { b.Gears[1] = []int{2, 0, 2} }, api.Double},
		"no pieces":                 {func(b *api.TackleBook) { b.Pieces = nil }, api.Number},
		"three pieces":              {func(b *api.TackleBook) { b.Pieces = pieces("a", "b", "c") }, api.Smooth},
		"four pieces":               {func(b *api.TackleBook) { b.Pieces = pieces("a", "b", "c", "d") }, api.Number},
		"a piece without a name":    {func(b *api.TackleBook) { b.Pieces[0].Name = "" }, api.Label},
		"a piece that is no label":  {func(b *api.TackleBook) { b.Pieces[1].Name = "b\n" }, api.Label},
		"a piece twice":             {func(b *api.TackleBook) { b.Pieces[1].Name = "chest" }, api.Double},
		"a piece like a part":       {func(b *api.TackleBook) { b.Pieces[1].Name = "sling" }, api.Smooth},
		"no weight":                 {func(b *api.TackleBook) { b.Pieces[1].Weight = reach(0, 1) }, api.Bounds},
		"least weight":              {func(b *api.TackleBook) { b.Pieces[1].Weight = reach(1, 3) }, api.Smooth},
		"greatest weight":           {func(b *api.TackleBook) { b.Pieces[1].Weight = reach(97, 99) }, api.Smooth},
		"weight above":              {func(b *api.TackleBook) { b.Pieces[1].Weight = reach(99, 100) }, api.Bounds},
		"weight turned":             {func(b *api.TackleBook) { b.Pieces[1].Weight = reach(2, 1) }, api.Bounds},
		"weight of four numbers":    {func(b *api.TackleBook) { b.Pieces[1].Weight = reach(1, 4) }, api.Bounds},
		"any weight":                {func(b *api.TackleBook) { b.Pieces[1].Weight = reach(math.MaxInt, math.MinInt) }, api.Bounds},
		"no tests":                  {func(b *api.TackleBook) { b.Tests = nil }, api.Smooth},
		"three tests":               {func(b *api.TackleBook) { b.Tests = slices.Repeat(b.Tests, 3) }, api.Smooth},
		"four tests":                {func(b *api.TackleBook) { b.Tests = slices.Repeat(b.Tests, 4) }, api.Number},
		"a gear that is not there":  {func(b *api.TackleBook) { b.Tests[0].Gear = 2 }, api.Missing},
		"a gear below":              {func(b *api.TackleBook) { b.Tests[0].Gear = -1 }, api.Missing},
		"any gear":                  {func(b *api.TackleBook) { b.Tests[0].Gear = math.MaxInt }, api.Missing},
		"no load":                   {func(b *api.TackleBook) { b.Tests[0].Load = 0 }, api.Bounds},
		"least load":                {func(b *api.TackleBook) { b.Tests[0].Load = 1 }, api.Smooth},
		"greatest load":             {func(b *api.TackleBook) { b.Tests[0].Load = 99 }, api.Smooth},
		"load above":                {func(b *api.TackleBook) { b.Tests[0].Load = 100 }, api.Bounds},
		"any load":                  {func(b *api.TackleBook) { b.Tests[0].Load = math.MinInt }, api.Bounds},
		"no case":                   {func(b *api.TackleBook) { b.Tests = append(b.Tests, gave(0, 21)) }, api.Smooth},

		"winch, then parts":        {func(b *api.TackleBook) { b.Winch, b.Parts = -1, nil }, api.Bounds},
		"many parts, then what":    {func(b *api.TackleBook) { b.Parts = make([]api.TacklePart, 5) }, api.Number},
		"label, then double":       {func(b *api.TackleBook) { b.Parts = parts("a", "A", "A") }, api.Label},
		"label, then sheaves":      {func(b *api.TackleBook) { b.Parts[0] = api.TacklePart{Name: "A", Sheaves: 5} }, api.Label},
		"double, then bears":       {func(b *api.TackleBook) { b.Parts[1] = api.TacklePart{Name: "sling", Bears: one(-1)} }, api.Double},
		"part by part":             {func(b *api.TackleBook) { b.Parts[0].Sheaves, b.Parts[1].Name = 5, "" }, api.Bounds},
		"parts, then gears":        {func(b *api.TackleBook) { b.Parts[2].Bears, b.Gears = one(100), nil }, api.Bounds},
		"many gears, then what":    {func(b *api.TackleBook) { b.Gears = [][]int{{9}, {9}, {9}, {9}} }, api.Number},
		"gear by gear":             {func(b *api.TackleBook) { b.Gears = [][]int{{0, 0}, nil} }, api.Double},
		"gear by gear, there":      {func(b *api.TackleBook) { b.Gears = [][]int{nil, {9}} }, api.Number},
		"number by number":         {func(b *api.TackleBook) { b.Gears[0] = []int{1, 1, 3} }, api.Double},
		"number by number, there":  {func(b *api.TackleBook) { b.Gears[0] = []int{1, 3, 1} }, api.Missing},
		"twice what is not there":  {func(b *api.TackleBook) { b.Gears[0] = []int{3, 3} }, api.Missing},
		"gears, then pieces":       {func(b *api.TackleBook) { b.Gears[1], b.Pieces = []int{0, 0}, nil }, api.Double},
		"many pieces, then what":   {func(b *api.TackleBook) { b.Pieces = make([]api.TacklePiece, 4) }, api.Number},
		"piece, then weight":       {func(b *api.TackleBook) { b.Pieces[1] = api.TacklePiece{Name: "B"} }, api.Label},
		"piece twice, then weight": {func(b *api.TackleBook) { b.Pieces[1] = api.TacklePiece{Name: "chest"} }, api.Double},
		"piece by piece":           {func(b *api.TackleBook) { b.Pieces = []api.TacklePiece{{Name: "a"}, {}} }, api.Bounds},
		"pieces, then tests":       {func(b *api.TackleBook) { b.Pieces[1].Weight, b.Tests = one(0), make([]api.TackleTest, 4) }, api.Bounds},
		"many tests, then what":    {func(b *api.TackleBook) { b.Tests = slices.Repeat([]api.TackleTest{gave(9, 0)}, 4) }, api.Number},
		"gear, then load":          {func(b *api.TackleBook) { b.Tests[0] = gave(2, 0) }, api.Missing},
		"test by test":             {func(b *api.TackleBook) { b.Tests = []api.TackleTest{gave(0, 0), gave(2, 1)} }, api.Bounds},
	} {
		b := bookH()
		x.change(&b)
		if h := tackle.CheckBook(b); h != x.want {
			t.Errorf("%s: %v, want %v", name, h, x.want)
		}
	}
}

func TestPulls(t *testing.T) {
	for i, x := range []struct {
		b          api.TackleBook
		gear, load int
		want       []int
	}{
		{bookG(), 0, 20, []int{20, 20, 8, 8}}, {bookG(), 1, 8, []int{8, 8, 8}}, {bookG(), 0, 30, []int{30, 30, 12, 12}}, {bookG(), 0, 21, []int{21, 21, 9, 9}}, {bookG(), 0, 1, []int{1, 1, 1, 1}}, {bookG(), 0, 99, []int{99, 99, 40, 40}}, {bookG(), 1, 99, []int{99, 99, 99}}, {adriftBook(), 0, 20, []int{20, 20, 8, 8}},
		// 11 of 20, 13 of 40 and 14 of 50, rounded up.
		{sheaved(bookG(), 1, 1), 0, 30, []int{30, 30, 17, 17}}, {sheaved(bookG(), 1, 3), 0, 30, []int{30, 30, 10, 10}}, {sheaved(bookG(), 1, 4), 0, 30, []int{30, 30, 9, 9}}, {sheaved(bookG(), 1, 1), 0, 20, []int{20, 20, 11, 11}}, {sheaved(bookG(), 1, 3), 0, 40, []int{40, 40, 13, 13}}, {sheaved(bookG(), 1, 3), 0, 41, []int{41, 41, 14, 14}}, {sheaved(bookG(), 1, 4), 0, 50, []int{50, 50, 14, 14}},
		{chain(), 0, 99, []int{99, 28, 8, 3, 1}}, {chain(), 1, 50, []int{50, 14, 4, 2, 1}}, {chain(), 2, 51, []int{51, 15}}, {geared(bookG(), []int{2, 1, 0}), 0, 20, []int{20, 20, 8, 8}}, {geared(sheaved(bookG(), 0, 1), []int{0, 1}), 0, 20, []int{20, 11, 5}}, {geared(sheaved(bookG(), 0, 1), []int{1, 0}), 0, 20, []int{20, 8, 5}},
	} {
		if l, h := tackle.Pulls(x.b, x.gear, x.load); !slices.Equal(l, x.want) || h != api.Smooth {
			t.Errorf("%d: %v, %v", i, l, h)
		}
	}
	eachRandom(200, func(_ *rand.Rand, b api.TackleBook) {
		for gear := range b.Gears {
			for load := 1; load <= 99; load += 7 {
				if l, h := tackle.Pulls(b, gear, load); !slices.Equal(l, modelPulls(b, gear, load)) || h != api.Smooth {
					t.Fatalf("Pulls(%v, %d, %d): %v, %v, want %v", b, gear, load, l, h, modelPulls(b, gear, load))
				}
			}
		}
	})
}

func TestLifts(t *testing.T) {
	last := []int{30, 22, 8}
	for i, x := range []struct {
		b           api.TackleBook
		c           api.TackleCase
		gear, piece int
		want        bool
	}{
		{bookG(), tackleCase([]int{30, 20, 9}, 21, 8), 0, 0, false}, {bookG(), tackleCase([]int{30, 21, 9}, 21, 8), 0, 0, true}, {bookG(), tackleCase([]int{30, 20, 9}, 20, 8), 0, 0, true}, {bookG(), tackleCase([]int{30, 20, 9}, 21, 8), 0, 1, true}, {bookG(), tackleCase([]int{30, 20, 9}, 21, 8), 1, 1, true}, {bookG(), tackleCase([]int{30, 20, 9}, 21, 8), 1, 0, false},
		// Whichever part it is, or the winch.
		{bookG(), tackleCase([]int{19, 20, 9}, 20, 8), 0, 0, false}, {bookG(), tackleCase([]int{20, 20, 8}, 20, 8), 0, 0, true}, {bookG(), tackleCase([]int{20, 20, 7}, 20, 8), 0, 0, false}, {winched(bookG(), 8), tackleCase([]int{20, 20, 8}, 20, 8), 0, 0, true}, {winched(bookG(), 7), tackleCase([]int{99, 99, 99}, 20, 8), 0, 0, false}, {winched(bookG(), 0), tackleCase([]int{99, 99, 99}, 1, 1), 0, 0, false},
		// Whether it is a case or not.
		{bookG(), tackleCase([]int{30, 22, 9}, 20, 10), 1, 1, false}, {bookG(), tackleCase([]int{30, 22, 9}, 20, 9), 1, 1, true}, {bookH(), tackleCase([]int{30, 20, 9}, 21, 8), 0, 0, false}, {adriftBook(), tackleCase([]int{30, 21, 9}, 21, 8), 0, 0, true}, {bookG(), tackleCase([]int{0, 0, 0}, 1, 1), 1, 1, false}, {bookG(), tackleCase([]int{99, 99, 99}, 99, 1), 0, 0, false}, {winched(bookG(), 99), tackleCase([]int{99, 99, 99}, 99, 1), 1, 0, true},
		// A part that the gear does not have does not matter.
		{bookG(), tackleCase([]int{30, 0, 9}, 21, 9), 1, 1, true}, {geared(bookG(), []int{2, 1}), tackleCase([]int{0, 22, 20}, 20, 9), 0, 0, true}, {geared(bookG(), []int{2, 1}), tackleCase(last, 9, 8), 0, 0, false}, {geared(bookG(), []int{2, 1}), tackleCase(last, 9, 8), 0, 1, true},
	} {
		if is, h := tackle.Lifts(x.b, x.c, x.gear, x.piece); is != x.want || h != api.Smooth {
			t.Errorf("%d: %v, %v", i, is, h)
		}
	}
}

func TestIsCase(t *testing.T) {
	for i, x := range []struct {
		b    api.TackleBook
		c    api.TackleCase
		want bool
	}{
		{bookG(), tackleCase([]int{30, 20, 9}, 21, 8), true}, {bookG(), tackleCase([]int{30, 22, 9}, 19, 8), true}, {bookG(), tackleCase([]int{30, 19, 9}, 21, 8), false}, {bookG(), tackleCase([]int{30, 23, 9}, 21, 8), false}, {bookG(), tackleCase([]int{29, 20, 9}, 21, 8), false}, {bookG(), tackleCase([]int{30, 20, 10}, 21, 8), false}, {bookG(), tackleCase([]int{30, 20, 9}, 18, 8), false}, {bookG(), tackleCase([]int{30, 20, 9}, 22, 8), false}, {bookG(), tackleCase([]int{30, 20, 9}, 21, 9), false}, {bookG(), tackleCase([]int{9, 20, 30}, 8, 21), false},
		{bookH(), tackleCase([]int{30, 20, 9}, 21, 8), false}, {bookH(), tackleCase([]int{30, 20, 9}, 19, 8), false}, {bookH(), tackleCase([]int{30, 21, 9}, 21, 8), true}, {bookH(), tackleCase([]int{30, 22, 9}, 19, 8), true}, {tried(bookG(), gave(0, 21)), tackleCase([]int{30, 20, 9}, 21, 8), true}, {tried(bookG(), gave(0, 21)), tackleCase([]int{30, 21, 9}, 21, 8), false},
		{tried(bookH(), gave(0, 22)), tackleCase([]int{30, 21, 9}, 21, 8), true}, {tried(bookH(), gave(0, 22)), tackleCase([]int{30, 22, 9}, 21, 8), false}, {tried(bookG(), gave(1, 10)), tackleCase([]int{30, 20, 9}, 21, 8), true}, {tried(bookG(), held(1, 10)), tackleCase([]int{30, 20, 9}, 21, 8), false}, {adriftBook(), tackleCase([]int{30, 20, 9}, 21, 8), false}, {adriftBook(), tackleCase([]int{30, 21, 9}, 21, 8), false},
	} {
		if is, h := tackle.IsCase(x.b, x.c); is != x.want || h != api.Smooth {
			t.Errorf("%d: %v, %v", i, is, h)
		}
	}
}

func TestLiftsAndIsCaseAsReckonedOtherwise(t *testing.T) {
	is, lifted, not := 0, 0, 0
	eachRandom(300, func(r *rand.Rand, b api.TackleBook) {
		all := modelAll(b, 1)
		for range 20 {
			c := all[r.Intn(len(all))]
			want := modelIs(b, c)
			if x, h := tackle.IsCase(b, c); x != want || h != api.Smooth {
				t.Fatalf("IsCase(%v, %v): %v, %v", b, c, x, h)
			}
			gear, piece := r.Intn(len(b.Gears)), r.Intn(len(b.Pieces))
			lifts := modelLifts(b, c.Bears, gear, c.Weights[piece])
			if x, h := tackle.Lifts(b, c, gear, piece); x != lifts || h != api.Smooth {
				t.Fatalf("Lifts(%v, %v, %d, %d): %v, %v", b, c, gear, piece, x, h)
			}
			if want {
				is++
			}
			if lifts {
				lifted++
			} else {
				not++
			}
		}
	})
	if is < 200 || lifted < 1000 || not < 1000 {
		t.Errorf("%d cases, %d lifted, %d not", is, lifted, not)
	}
}

func TestCaseHitches(t *testing.T) {
	for i, x := range []struct {
		b    api.TackleBook
		c    api.TackleCase
		want api.Hitch
	}{
		{bookG(), tackleCase([]int{30, 20}, 21, 8), api.Number}, {bookG(), tackleCase([]int{30, 20, 9, 9}, 21, 8), api.Number}, {bookG(), tackleCase(nil, 21, 8), api.Number}, {bookG(), tackleCase([]int{30, 20, 9}), api.Number}, {bookG(), tackleCase([]int{30, 20, 9}, 21), api.Number}, {bookG(), tackleCase([]int{30, 20, 9}, 21, 8, 1), api.Number}, {adriftBook(), tackleCase(nil), api.Number},
		{bookG(), tackleCase([]int{-1, 20, 9}, 21), api.Number}, {bookG(), tackleCase([]int{100}, 0, 0), api.Number}, {bookG(), tackleCase([]int{30, 20, 9}, 0), api.Number},
		{bookG(), tackleCase([]int{30, 20, -1}, 21, 8), api.Bounds}, {bookG(), tackleCase([]int{100, 20, 9}, 21, 8), api.Bounds}, {bookG(), tackleCase([]int{30, 20, 9}, 0, 8), api.Bounds}, {bookG(), tackleCase([]int{30, 20, 9}, 21, 100), api.Bounds}, {bookG(), tackleCase([]int{30, math.MinInt, 9}, 21, 8), api.Bounds}, {bookG(), tackleCase([]int{30, 20, 9}, 21, math.MaxInt), api.Bounds}, {adriftBook(), tackleCase([]int{30, 20, 9}, 0, 8), api.Bounds},
		{api.TackleBook{}, tackleCase([]int{100}), api.Number}, {winched(bookG(), -1), tackleCase(nil), api.Bounds},
	} {
		for _, gear := range []int{0, 9} {
			if is, h := tackle.Lifts(x.b, x.c, gear, 0); is || h != x.want {
				t.Errorf("%d: Lifts: %v, %v", i, is, h)
			}
		}
		if is, h := tackle.IsCase(x.b, x.c); is || h != x.want {
			t.Errorf("%d: IsCase: %v, %v", i, is, h)
		}
	}
	for i, c := range []api.TackleCase{tackleCase([]int{0, 0, 0}, 1, 1), tackleCase([]int{99, 99, 99}, 99, 99)} {
		if is, h := tackle.IsCase(bookG(), c); is || h != api.Smooth {
			t.Errorf("%d: %v, %v", i, is, h)
		}
	}
}

func TestCasesOfG(t *testing.T) {
	for i, x := range []struct {
		b           api.TackleBook
		many        int
		luff, chest []int
		h           api.Hitch
	}{
		{bookG(), 9, []int{20, 21, 22}, []int{19, 20, 21}, api.Smooth}, {bookH(), 6, []int{21, 22}, []int{19, 20, 21}, api.Smooth}, {tried(bookH(), gave(0, 22)), 3, []int{21}, []int{19, 20, 21}, api.Smooth}, {tried(bookG(), gave(0, 21)), 3, []int{20}, []int{19, 20, 21}, api.Smooth}, {tried(bookG(), held(0, 22)), 3, []int{22}, []int{19, 20, 21}, api.Smooth}, {tried(bookG(), held(0, 20), gave(0, 23)), 9, []int{20, 21, 22}, []int{19, 20, 21}, api.Smooth},
		{weighed(bookG(), 1, reach(8, 10)), 27, []int{20, 21, 22}, []int{19, 20, 21}, api.Smooth}, {borne(bookG(), 0, reach(0, 1)), 18, []int{20, 21, 22}, []int{19, 20, 21}, api.Smooth}, {winched(bookG(), 0), 9, []int{20, 21, 22}, []int{19, 20, 21}, api.Smooth},
		// Either part can be the one that gave.
		{tried(borne(bookG(), 0, reach(19, 20)), gave(0, 20)), 9, []int{20, 21, 22}, []int{19, 20, 21}, api.Smooth}, {tried(borne(bookG(), 0, reach(20, 21)), gave(0, 21)), 12, []int{20, 21, 22}, []int{19, 20, 21}, api.Smooth},
		{adriftBook(), 0, nil, nil, api.Adrift}, {tried(bookG(), gave(0, 20)), 0, nil, nil, api.Adrift}, {tried(bookG(), held(0, 23)), 0, nil, nil, api.Adrift}, {tried(bookG(), held(1, 10)), 0, nil, nil, api.Adrift}, {tried(winched(bookG(), 8), held(0, 21)), 0, nil, nil, api.Adrift},
	} {
		if n := mustCases(t, x.b); n != x.many {
			t.Errorf("%d: Cases: %d", i, n)
		}
		if l, h := tackle.Bears(x.b, 1); !slices.Equal(l, x.luff) || h != x.h {
			t.Errorf("%d: Bears: %v, %v", i, l, h)
		}
		if l, h := tackle.Weights(x.b, 0); !slices.Equal(l, x.chest) || h != x.h {
			t.Errorf("%d: Weights: %v, %v", i, l, h)
		}
	}
	if l, h := tackle.Bears(tried(borne(bookG(), 0, reach(20, 21)), gave(0, 21), held(0, 20)), 0); !slices.Equal(l, []int{20, 21}) || h != api.Smooth {
		t.Errorf("%v, %v", l, h)
	}
}

func TestAtTheLimits(t *testing.T) {
	b := chain()
	if n := mustCases(t, b); n != 81*27 {
		t.Errorf("Cases: %d", n)
	}
	for gear, want := range []int{97, 97, 97} {
		if n, h := tackle.Most(b, gear); n != want || h != api.Smooth {
			t.Errorf("Most %d: %d, %v", gear, n, h)
		}
	}
	if l, h := tackle.Weak(b, 0, 99); !slices.Equal(l, []int{0}) || h != api.Smooth {
		t.Errorf("Weak: %v, %v", l, h)
	}
	if gear, load, left, h := tackle.Ask(b); gear != 0 || load != 98 || left != 54*27 || h != api.Smooth {
		t.Errorf("Ask: %d, %d, %d, %v", gear, load, left, h)
	}
	if l, found, h := tackle.Renew(b); !slices.Equal(l, []int{0}) || !found || h != api.Smooth {
		t.Errorf("Renew: %v, %v, %v", l, found, h)
	}
	if l, found, h := tackle.Share(b); len(l) > 0 || found || h != api.Smooth {
		t.Errorf("Share: %v, %v, %v", l, found, h)
	}
	light := b
	light.Pieces = pieces("a", "b", "c")
	if l, found, h := tackle.Share(light); !slices.Equal(l, []int{0, 1, 2}) || !found || h != api.Smooth {
		t.Errorf("Share: %v, %v, %v", l, found, h)
	}
	strong := clone(b)
	for i := range strong.Parts {
		strong.Parts[i].Bears = one(99)
	}
	if n, h := tackle.Most(strong, 2); n != 99 || h != api.Smooth {
		t.Errorf("Most: %d, %v", n, h)
	}
	// Nothing lifts a load but one without sheaves that bears it, if all else is as weak as can be.
	if n, h := tackle.Most(winched(strong, 0), 0); n != 0 || h != api.Smooth {
		t.Errorf("Most: %d, %v", n, h)
	}
	if n, h := tackle.Most(borne(strong, 2, reach(0, 2)), 2); n != 0 || h != api.Smooth {
		t.Errorf("Most: %d, %v", n, h)
	}
}

func TestMay(t *testing.T) {
	for i, x := range []struct {
		b    api.TackleBook
		want []api.Known // of the chest and the bar by the gear 0, and then by the gear 1
	}{
		{bookG(), []api.Known{unsure, surely, never, surely}}, {bookH(), []api.Known{surely, surely, never, surely}}, {tried(bookG(), gave(0, 21)), []api.Known{unsure, surely, never, surely}}, {weighed(bookG(), 0, reach(19, 20)), []api.Known{surely, surely, never, surely}}, {weighed(bookG(), 0, reach(22, 23)), []api.Known{unsure, surely, never, surely}}, {weighed(bookG(), 0, reach(23, 24)), []api.Known{never, surely, never, surely}},
		{weighed(bookG(), 1, reach(9, 10)), []api.Known{unsure, surely, never, unsure}}, {winched(bookG(), 8), []api.Known{unsure, surely, never, surely}}, {winched(bookG(), 7), []api.Known{never, surely, never, never}}, {winched(bookG(), 0), []api.Known{never, never, never, never}}, {borne(bookG(), 0, reach(0, 1)), []api.Known{never, never, never, never}}, {winched(bookH(), 99), []api.Known{surely, surely, never, surely}},
		// A gear that gave with less does not lift it.
		{tried(weighed(bookG(), 0, one(21)), gave(0, 21)), []api.Known{never, surely, never, surely}}, {tried(weighed(bookG(), 0, one(22)), gave(0, 21)), []api.Known{never, surely, never, surely}},
	} {
		for k, want := range x.want {
			if u, h := tackle.May(x.b, k/2, k%2); u != want || h != api.Smooth {
				t.Errorf("%d: May %d: %v, %v", i, k, u, h)
			}
		}
	}
}

func TestMostAndWeak(t *testing.T) {
	for i, x := range []struct {
		b          api.TackleBook
		gear, most int
		load       int
		weak       []int
	}{
		{bookG(), 0, 20, 22, []int{1}}, {bookG(), 0, 20, 23, []int{1, 2, 3}}, {bookG(), 0, 20, 20, nil}, {bookG(), 0, 20, 21, []int{1}}, {bookG(), 0, 20, 30, []int{1, 2, 3}}, {bookG(), 0, 20, 31, []int{0, 1, 2, 3}}, {bookG(), 0, 20, 1, nil}, {bookG(), 0, 20, 99, []int{0, 1, 2, 3}}, {bookG(), 1, 9, 9, nil}, {bookG(), 1, 9, 10, []int{1, 2}}, {bookG(), 1, 9, 31, []int{0, 1, 2}},
		{bookH(), 0, 21, 21, nil}, {bookH(), 0, 21, 22, []int{1}}, {bookH(), 1, 9, 10, []int{1, 2}}, {tried(bookG(), held(0, 22)), 0, 22, 22, nil}, {tried(bookG(), gave(0, 21)), 0, 20, 22, []int{1}},
		{winched(bookG(), 99), 1, 9, 10, []int{1}}, {winched(bookG(), 8), 1, 8, 9, []int{2}}, {winched(bookG(), 0), 0, 0, 1, []int{3}}, {borne(bookG(), 0, reach(0, 1)), 0, 0, 1, []int{0}}, {borne(bookG(), 0, one(0)), 1, 0, 1, []int{0}}, {geared(bookG(), []int{2, 1}), 0, 9, 21, []int{0, 1}}, {geared(bookG(), []int{2, 1}), 0, 9, 9, nil},
	} {
		if n, h := tackle.Most(x.b, x.gear); n != x.most || h != api.Smooth {
			t.Errorf("%d: Most: %d, %v", i, n, h)
		}
		if l, h := tackle.Weak(x.b, x.gear, x.load); !slices.Equal(l, x.weak) || h != api.Smooth {
			t.Errorf("%d: Weak: %v, %v", i, l, h)
		}
	}
}

func TestGears(t *testing.T) {
	chest, bar := weighed(bookG(), 0, one(8)), weighed(bookG(), 1, one(9))
	swapped := weighed(chest, 1, one(20))
	for i, x := range []struct {
		b     api.TackleBook
		few   []int
		is    bool
		share []int
		can   bool
		renew []int
		could bool
	}{
		{bookG(), nil, false, nil, false, []int{1}, true}, {bookH(), []int{0}, true, []int{0, 1}, true, nil, true}, {chest, []int{0}, true, []int{0, 1}, true, nil, true}, {swapped, []int{0}, true, []int{1, 0}, true, nil, true}, {tried(bar, held(0, 21)), []int{0}, true, []int{0, 1}, true, nil, true}, {weighed(bookH(), 1, one(20)), []int{0}, true, nil, false, nil, true}, {weighed(bookG(), 0, one(23)), nil, false, nil, false, nil, false},
		{weighed(winched(bookG(), 10), 0, one(23)), nil, false, nil, false, []int{1, 2}, true}, {weighed(winched(bookG(), 99), 0, one(31)), nil, false, nil, false, []int{0, 2}, true}, {weighed(winched(bookG(), 99), 0, one(30)), nil, false, nil, false, []int{2}, true}, {winched(bookG(), 99), nil, false, nil, false, []int{1}, true}, {winched(bookH(), 0), nil, false, nil, false, nil, false},
		{pair(), nil, false, nil, false, []int{1}, true}, {geared(pair(), []int{0, 1}), nil, false, nil, false, []int{0, 1}, true}, {geared(pair(), []int{0}, []int{1}), nil, false, nil, false, []int{0}, true}, {weighed(pair(), 0, one(6)), []int{1}, true, []int{1}, true, nil, true}, {weighed(pair(), 0, one(5)), []int{0}, true, []int{0}, true, nil, true}, {winched(pair(), 6), nil, false, nil, false, nil, false},
	} {
		if i == 11 {
			x.b.Tests = nil // with such a winch it did not hold
		}
		if l, found, h := tackle.Fewest(x.b); !slices.Equal(l, x.few) || found != x.is || h != api.Smooth {
			t.Errorf("%d: Fewest: %v, %v, %v", i, l, found, h)
		}
		if l, found, h := tackle.Share(x.b); !slices.Equal(l, x.share) || found != x.can || h != api.Smooth {
			t.Errorf("%d: Share: %v, %v, %v", i, l, found, h)
		}
		if l, found, h := tackle.Renew(x.b); !slices.Equal(l, x.renew) || found != x.could || h != api.Smooth {
			t.Errorf("%d: Renew: %v, %v, %v", i, l, found, h)
		}
	}
}

// A piece is to be lifted by the same gear in each case.
func TestAlwaysTheSameGear(t *testing.T) {
	// As the long gear gave, one of the parts is weak, and one of the gears lifts the piece, but nobody knows which one.
	either := api.TackleBook{
		Winch: 99, Parts: []api.TacklePart{{Name: "a", Bears: reach(7, 8)}, {Name: "b", Bears: reach(7, 8)}},
		Gears: [][]int{{0}, {1}, {0, 1}}, Pieces: []api.TacklePiece{{Name: "p", Weight: one(8)}}, Tests: []api.TackleTest{gave(2, 8)},
	}
	ever := tried(either, held(0, 8))
	for i, x := range []struct {
		b     api.TackleBook
		many  int
		gears []int
		renew []int
	}{{either, 3, nil, []int{0}}, {ever, 1, []int{0}, nil}, {tried(either, held(1, 8)), 1, []int{1}, nil}} {
		if n := mustCases(t, x.b); n != x.many {
			t.Errorf("%d: %d cases", i, n)
		}
		if l, found, h := tackle.Fewest(x.b); !slices.Equal(l, x.gears) || found != (len(x.gears) > 0) || h != api.Smooth {
			t.Errorf("%d: Fewest: %v, %v, %v", i, l, found, h)
		}
		if l, found, h := tackle.Share(x.b); !slices.Equal(l, x.gears) || found != (len(x.gears) > 0) || h != api.Smooth {
			t.Errorf("%d: Share: %v, %v, %v", i, l, found, h)
		}
		if l, found, h := tackle.Renew(x.b); !slices.Equal(l, x.renew) || !found || h != api.Smooth {
			t.Errorf("%d: Renew: %v, %v, %v", i, l, found, h)
		}
	}
}

// A gear that lifts more is not taken where an earlier one does.
func TestSeveralGears(t *testing.T) {
	b := api.TackleBook{
		Winch: 10, Parts: []api.TacklePart{{Name: "thin", Sheaves: 1, Bears: reach(9, 11)}, {Name: "thick", Bears: one(50)}, {Name: "block", Sheaves: 4, Bears: one(20)}},
		Gears: [][]int{{0}, {1}, {1, 2}}, Pieces: []api.TacklePiece{{Name: "a", Weight: one(9)}, {Name: "b", Weight: one(10)}, {Name: "c", Weight: one(20)}},
	}
	for i, want := range []int{9, 10, 20} {
		if n, h := tackle.Most(b, i); n != want || h != api.Smooth {
			t.Errorf("Most %d: %d, %v", i, n, h)
		}
	}
	if l, found, h := tackle.Fewest(b); !slices.Equal(l, []int{2}) || !found || h != api.Smooth {
		t.Errorf("Fewest: %v, %v, %v", l, found, h)
	}
	if l, found, h := tackle.Share(b); !slices.Equal(l, []int{0, 1, 2}) || !found || h != api.Smooth {
		t.Errorf("Share: %v, %v, %v", l, found, h)
	}
	slices.Reverse(b.Pieces)
	if l, found, h := tackle.Share(b); !slices.Equal(l, []int{2, 1, 0}) || !found || h != api.Smooth {
		t.Errorf("Share: %v, %v, %v", l, found, h)
	}
	short := b
	short.Pieces = b.Pieces[1:]
	if l, found, h := tackle.Fewest(short); !slices.Equal(l, []int{1}) || !found || h != api.Smooth {
		t.Errorf("Fewest: %v, %v, %v", l, found, h)
	}
	if l, found, h := tackle.Share(short); !slices.Equal(l, []int{1, 0}) || !found || h != api.Smooth {
		t.Errorf("Share: %v, %v, %v", l, found, h)
	}
}

func TestAllAsReckonedOtherwise(t *testing.T) {
	adrift := 0
	found := map[string]int{}
	eachRandom(400, func(r *rand.Rand, b api.TackleBook) {
		cases := modelCases(b)
		if n := mustCases(t, b); n != len(cases) {
			t.Fatalf("Cases(%v): %d, want %d", b, n, len(cases))
		}
		if len(cases) == 0 {
			adrift++
			checkAdrift(t, b)
			return
		}
		checkNumbers(t, b, cases)
		checkGears(t, r, b, cases)
		for what, l := range checkBest(t, b, cases) {
			found[what+" "+string(rune('0'+len(l)))]++
		}
		gear, load, left := modelAsk(b, cases)
		if g, l, n, h := tackle.Ask(b); g != gear || l != load || n != left || h != api.Smooth {
			t.Errorf("Ask(%v): %d, %d, %d, %v, want %d, %d, %d", b, g, l, n, h, gear, load, left)
		}
		if gear >= 0 {
			found["asked"]++
		}
	})
	if adrift < 20 || adrift > 200 {
		t.Errorf("%d of 400 books have no case", adrift)
	}
	for _, what := range []string{"few 1", "share 1", "share 2", "renew 0", "renew 1", "renew 2", "asked"} {
		if found[what] < 5 {
			t.Errorf("so much was found: %v", found)
		}
	}
}

// checkAdrift checks what is told of a book that has no case.
func checkAdrift(t *testing.T, b api.TackleBook) {
	t.Helper()
	model.CheckZero(t, api.Adrift, questions(b)...)
	model.CheckZero(t, api.Adrift, withGear(b, 0, 0)...)
	model.CheckZero(t, api.Adrift, func() (bool, api.Hitch) {
		l, h := tackle.Bears(b, 0)
		return l == nil, h
	}, func() (bool, api.Hitch) {
		l, h := tackle.Weights(b, 0)
		return l == nil, h
	}, func() (bool, api.Hitch) {
		l, h := tackle.Weak(b, 0, 99)
		return l == nil, h
	}, func() (bool, api.Hitch) {
		o, h := tackle.Know(b, 0, b.Parts[0].Bears)
		return isZero(o), h
	}, func() (bool, api.Hitch) {
		o, h := tackle.Weigh(b, 0, b.Pieces[0].Weight)
		return isZero(o), h
	})
}

// checkNumbers checks what is told of parts, and of weights.
func checkNumbers(t *testing.T, b api.TackleBook, cases []api.TackleCase) {
	t.Helper()
	for part := range b.Parts {
		want := model.NumbersOf(cases, func(c api.TackleCase) int { return c.Bears[part] })
		if l, h := tackle.Bears(b, part); !slices.Equal(l, want) || h != api.Smooth {
			t.Errorf("Bears(%v, %d): %v, %v, want %v", b, part, l, h, want)
		}
	}
	for piece := range b.Pieces {
		want := model.NumbersOf(cases, func(c api.TackleCase) int { return c.Weights[piece] })
		if l, h := tackle.Weights(b, piece); !slices.Equal(l, want) || h != api.Smooth {
			t.Errorf("Weights(%v, %d): %v, %v, want %v", b, piece, l, h, want)
		}
	}
}

// checkGears checks what is told of each gear.
func checkGears(t *testing.T, r *rand.Rand, b api.TackleBook, cases []api.TackleCase) {
	t.Helper()
	for gear := range b.Gears {
		for piece := range b.Pieces {
			want := modelMay(b, cases, gear, piece)
			if u, h := tackle.May(b, gear, piece); u != want || h != api.Smooth {
				t.Errorf("May(%v, %d, %d): %v, %v, want %v", b, gear, piece, u, h, want)
			}
		}
		want := modelMost(b, cases, gear)
		if n, h := tackle.Most(b, gear); n != want || h != api.Smooth {
			t.Errorf("Most(%v, %d): %d, %v, want %d", b, gear, n, h, want)
		}
		for range 5 {
			load := 1 + r.Intn(30)
			want := modelWeak(b, cases, gear, load)
			if l, h := tackle.Weak(b, gear, load); !slices.Equal(l, want) || h != api.Smooth {
				t.Errorf("Weak(%v, %d, %d): %v, %v, want %v", b, gear, load, l, h, want)
			}
		}
	}
}

// checkBest checks Fewest, Share and Renew, and returns the lists that are found.
func checkBest(t *testing.T, b api.TackleBook, cases []api.TackleCase) map[string][]int {
	t.Helper()
	all := map[string][]int{}
	for what, x := range map[string]struct {
		tell func(b api.TackleBook) ([]int, bool, api.Hitch)
		want func(b api.TackleBook, cases []api.TackleCase) ([]int, bool)
	}{"few": {tackle.Fewest, modelFewest}, "share": {tackle.Share, modelShare}, "renew": {tackle.Renew, modelRenew}} {
		want, is := x.want(b, cases)
		l, found, h := x.tell(b)
		if !slices.Equal(l, want) || found != is || h != api.Smooth {
			t.Errorf("%s: %v: %v, %v, %v, want %v, %v", what, b, l, found, h, want, is)
		}
		if found {
			all[what] = l
		}
	}
	return all
}

func TestWhatIsNotThere(t *testing.T) {
	for _, b := range []api.TackleBook{bookG(), adriftBook()} {
		c := tackleCase([]int{30, 20, 9}, 21, 8)
		for _, i := range []int{-1, 3, 4, math.MinInt, math.MaxInt} {
			model.CheckZero(t, api.Missing, withGear(b, i, 0)...)
			model.CheckZero(t, api.Missing, withLoad(b, i, 0)...)
			model.CheckZero(t, api.Missing, withPart(b, i)...)
			model.CheckZero(t, api.Missing, withPiece(b, i)...)
			model.CheckZero(t, api.Missing, func() (bool, api.Hitch) {
				is, h := tackle.Lifts(b, c, i, 0)
				return !is, h
			}, func() (bool, api.Hitch) {
				is, h := tackle.Lifts(b, c, 0, i)
				return !is, h
			})
		}
		for _, i := range []int{0, -1, 100, math.MinInt, math.MaxInt} {
			model.CheckZero(t, api.Bounds, withLoad(b, 1, i)...)
		}
		// There are three parts, but two gears, and two pieces.
		model.CheckZero(t, api.Missing, withGear(b, 2, 0)...)
		model.CheckZero(t, api.Missing, withGear(b, 0, 2)[0])
		model.CheckZero(t, api.Missing, withLoad(b, 2, 1)...)
		model.CheckZero(t, api.Missing, withPiece(b, 2)...)
	}
	if l, h := tackle.Bears(bookG(), 2); !slices.Equal(l, []int{9}) || h != api.Smooth {
		t.Errorf("%v, %v", l, h)
	}
}

func TestClash(t *testing.T) {
	// The long gear gave with what each of its parts bears.
	three := api.TackleBook{Winch: 99, Parts: []api.TacklePart{{Name: "a", Bears: reach(7, 9)}, {Name: "b", Bears: reach(7, 9)}}, Gears: [][]int{{0}, {1}, {0, 1}}, Pieces: pieces("p")}
	for i, x := range []struct {
		b    api.TackleBook
		want []int
	}{
		{bookG(), nil}, {bookH(), nil}, {adriftBook(), []int{0, 1}}, {tried(bookG(), gave(0, 20)), []int{0}}, {tried(bookH(), gave(0, 20)), []int{1}}, {tried(bookG(), gave(0, 21), held(0, 20), held(0, 22)), []int{0, 2}}, {tried(bookG(), held(0, 20), gave(0, 21), held(0, 21)), []int{1, 2}}, {tried(bookH(), gave(0, 21), held(1, 10)), []int{2}}, {tried(bookG(), gave(0, 21), gave(0, 22), held(0, 22)), []int{0, 2}}, {tried(bookG(), held(0, 23), gave(0, 20), gave(1, 9)), []int{0}},
		{tried(three, held(0, 8), held(1, 8), gave(2, 8)), []int{0, 1, 2}}, {tried(three, gave(2, 9), held(1, 9), held(0, 9)), []int{0, 1, 2}}, {tried(three, held(0, 8), held(1, 8), gave(2, 9)), nil}, {tried(three, held(0, 8), held(1, 8), gave(2, 7)), []int{2}},
	} {
		if l, h := tackle.Clash(x.b); !slices.Equal(l, x.want) || h != api.Smooth {
			t.Errorf("%d: %v, %v", i, l, h)
		}
	}
}

func TestClashAsReckonedOtherwise(t *testing.T) {
	clashed := map[int]int{}
	eachRandom(600, func(r *rand.Rand, b api.TackleBook) {
		b = triedAtRandom(r, b)
		few, _ := model.FewestOf(len(b.Tests), func(l []int) bool { return len(modelCases(only(b, l))) == 0 })
		clashed[len(few)]++
		if l, h := tackle.Clash(b); !slices.Equal(l, few) || h != api.Smooth {
			t.Errorf("Clash(%v): %v, %v, want %v", b, l, h, few)
		}
	})
	if clashed[0] < 10 || clashed[1] < 10 || clashed[2] < 10 {
		t.Errorf("so many books by how many tests clash: %v", clashed)
	}
}

func TestAsk(t *testing.T) {
	for i, x := range []struct {
		b                api.TackleBook
		gear, load, left int
	}{
		{bookG(), 0, 21, 6}, {bookH(), 0, 22, 3}, {tried(bookH(), gave(0, 22)), -1, 0, 3}, {weighed(bookG(), 0, one(20)), 0, 21, 2}, {weighed(bookG(), 1, reach(8, 10)), 0, 21, 18}, {borne(bookG(), 1, one(20)), -1, 0, 3}, {winched(bookG(), 8), -1, 0, 9}, {winched(bookG(), 0), -1, 0, 9}, {pair(), -1, 0, 1}, {tried(bookG(), held(0, 1), held(0, 1), held(0, 1)), 0, 21, 6},
		{borne(bookG(), 0, reach(0, 1)), 0, 1, 9}, {borne(borne(bookG(), 0, reach(8, 10)), 1, one(20)), 0, 9, 6}, {borne(bookG(), 2, reach(8, 10)), 0, 21, 15}, {borne(borne(bookG(), 1, one(20)), 2, reach(8, 9)), 1, 9, 3}, {geared(borne(bookG(), 0, reach(20, 21)), []int{1}, []int{0, 1}), 0, 21, 12}, {geared(borne(bookG(), 0, reach(20, 22)), []int{1}, []int{0, 1}), 1, 21, 15},
	} {
		if gear, load, left, h := tackle.Ask(x.b); gear != x.gear || load != x.load || left != x.left || h != api.Smooth {
			t.Errorf("%d: %d, %d, %d, %v", i, gear, load, left, h)
		}
	}
}

func TestTry(t *testing.T) {
	full := tried(bookH(), held(0, 20), held(0, 1))
	for i, x := range []struct {
		b    api.TackleBook
		x    api.TackleTest
		want api.Hitch
	}{
		{bookG(), held(0, 21), api.Smooth}, {bookG(), gave(0, 21), api.Smooth}, {bookG(), gave(1, 10), api.Smooth}, {bookG(), held(1, 9), api.Smooth}, {bookH(), held(0, 21), api.Smooth}, {bookH(), gave(0, 22), api.Smooth}, {bookG(), gave(0, 99), api.Smooth}, {bookG(), held(0, 1), api.Smooth}, {tried(bookH(), held(0, 20)), held(0, 22), api.Smooth},
		{bookH(), gave(0, 21), api.Adrift}, {bookH(), gave(0, 20), api.Adrift}, {bookG(), held(1, 10), api.Adrift}, {bookG(), gave(1, 9), api.Adrift}, {bookG(), held(0, 23), api.Adrift}, {adriftBook(), held(0, 21), api.Adrift}, {adriftBook(), gave(0, 21), api.Adrift},
		{bookG(), gave(2, 0), api.Missing}, {bookG(), gave(-1, 1), api.Missing}, {bookG(), gave(math.MinInt, math.MaxInt), api.Missing}, {adriftBook(), held(9, 0), api.Missing}, {bookG(), held(0, 0), api.Bounds}, {bookG(), gave(1, 100), api.Bounds}, {adriftBook(), gave(0, math.MinInt), api.Bounds},
		{full, held(0, 1), api.Number}, {full, held(9, 0), api.Number}, {full, gave(0, 20), api.Number}, {winched(full, -1), held(0, 1), api.Bounds}, {api.TackleBook{}, held(0, 1), api.Number},
	} {
		o, h := tackle.Try(x.b, x.x)
		if h != x.want || h != api.Smooth && !isZero(o) {
			t.Errorf("%d: %v, %v", i, o, h)
		}
		if h == api.Smooth && !equal(o, tried(x.b, x.x)) {
			t.Errorf("%d: %v", i, o)
		}
	}
}

func TestKnow(t *testing.T) {
	for i, x := range []struct {
		b        api.TackleBook
		part     int
		x, bears api.Reach
	}{
		{bookG(), 1, reach(21, 99), reach(21, 22)}, {bookG(), 1, reach(0, 99), reach(20, 22)}, {bookG(), 1, reach(0, 20), one(20)}, {bookG(), 1, one(21), one(21)}, {bookG(), 0, reach(30, 31), one(30)}, {bookG(), 2, one(9), one(9)}, {bookH(), 1, reach(20, 21), reach(20, 21)}, {bookH(), 1, reach(22, 50), one(22)}, {borne(bookG(), 1, reach(0, 2)), 1, reach(0, 1), reach(0, 1)},
	} {
		if o, h := tackle.Know(x.b, x.part, x.x); !equal(o, borne(x.b, x.part, x.bears)) || h != api.Smooth {
			t.Errorf("%d: %v, %v", i, o, h)
		}
	}
	for i, x := range []struct {
		b    api.TackleBook
		part int
		x    api.Reach
		want api.Hitch
	}{
		{bookH(), 1, reach(0, 20), api.Adrift}, {bookG(), 1, reach(23, 99), api.Adrift}, {bookG(), 1, reach(0, 19), api.Adrift}, {adriftBook(), 1, reach(0, 99), api.Adrift}, {adriftBook(), 1, one(30), api.Adrift}, {tried(bookG(), gave(0, 22)), 1, one(22), api.Adrift},
		{bookG(), 0, reach(2, 1), api.Bounds}, {bookG(), 0, reach(-1, 1), api.Bounds}, {bookG(), 0, reach(0, 100), api.Bounds}, {bookG(), 0, reach(math.MinInt, math.MaxInt), api.Bounds}, {adriftBook(), 2, reach(31, 30), api.Bounds},
		{bookG(), 3, reach(2, 1), api.Missing}, {bookG(), -1, one(9), api.Missing}, {adriftBook(), math.MaxInt, one(-1), api.Missing}, {winched(bookG(), -1), 3, one(-1), api.Bounds}, {api.TackleBook{}, 0, one(0), api.Number},
	} {
		if o, h := tackle.Know(x.b, x.part, x.x); !isZero(o) || h != x.want {
			t.Errorf("%d: %v, %v", i, o, h)
		}
	}
}

func TestWeigh(t *testing.T) {
	for i, x := range []struct {
		b         api.TackleBook
		piece     int
		x, weight api.Reach
	}{
		{bookG(), 0, reach(19, 20), reach(19, 20)}, {bookG(), 0, reach(1, 20), reach(19, 20)}, {bookG(), 0, reach(1, 99), reach(19, 21)}, {bookG(), 0, reach(21, 99), one(21)}, {bookG(), 1, reach(8, 9), one(8)}, {bookH(), 0, one(20), one(20)}, {weighed(bookG(), 1, reach(1, 3)), 1, reach(1, 2), reach(1, 2)},
	} {
		if o, h := tackle.Weigh(x.b, x.piece, x.x); !equal(o, weighed(x.b, x.piece, x.weight)) || h != api.Smooth {
			t.Errorf("%d: %v, %v", i, o, h)
		}
	}
	for i, x := range []struct {
		b     api.TackleBook
		piece int
		x     api.Reach
		want  api.Hitch
	}{
		{bookG(), 1, reach(9, 99), api.Adrift}, {bookG(), 0, reach(1, 18), api.Adrift}, {bookG(), 0, one(22), api.Adrift}, {adriftBook(), 0, reach(1, 99), api.Adrift}, {adriftBook(), 0, one(30), api.Adrift},
		{bookG(), 0, reach(0, 20), api.Bounds}, {bookG(), 0, reach(1, 100), api.Bounds}, {bookG(), 0, reach(21, 20), api.Bounds}, {bookG(), 0, reach(math.MinInt, math.MaxInt), api.Bounds}, {adriftBook(), 0, one(0), api.Bounds},
		{bookG(), 2, reach(0, 1), api.Missing}, {bookG(), -1, one(8), api.Missing}, {adriftBook(), math.MinInt, one(0), api.Missing}, {winched(bookG(), 100), 2, one(0), api.Bounds},
	} {
		if o, h := tackle.Weigh(x.b, x.piece, x.x); !isZero(o) || h != x.want {
			t.Errorf("%d: %v, %v", i, o, h)
		}
	}
	o, _ := tackle.Weigh(bookG(), 0, reach(19, 20))
	if u, h := tackle.May(o, 0, 0); u != surely || h != api.Smooth {
		t.Errorf("%v, %v", u, h)
	}
}

const (
	textG = "tackle 9\npart sling 0 30\npart luff 2 20:22\npart rope 0 9\ngear 0,1,2\ngear 0,2\npiece chest 19:21\npiece bar 8\n"
	textH = textG + "test 0 21 held\n"
	small = "tackle 5\npart a 0 5\ngear 0\npiece p 1\n"
)

func TestPrint(t *testing.T) {
	big := chain()
	big.Parts[0].Name, big.Parts[3].Bears, big.Tests = "abcdefghijk9", reach(0, 1), []api.TackleTest{held(2, 99), gave(0, 1), held(1, 50)}
	for want, b := range map[string]api.TackleBook{
		textG: bookG(), textH: bookH(), textH + "test 0 21 gave\n": adriftBook(), strings.Replace(textG, "tackle 9", "tackle 0", 1): winched(bookG(), 0),
		"tackle 99\npart abcdefghijk9 4 97:99\npart b 4 97:99\npart c 4 97:99\npart d 4 0:1\ngear 0,1,2,3\ngear 3,2,1,0\ngear 2\npiece a 97:99\npiece b 97:99\npiece c 97:99\ntest 2 99 held\ntest 0 1 gave\ntest 1 50 held\n": big,
		small: {Winch: 5, Parts: []api.TacklePart{{Name: "a", Bears: one(5)}}, Gears: [][]int{{0}}, Pieces: pieces("p")},
	} {
		if s, h := tackle.Print(b); s != want || h != api.Smooth {
			t.Errorf("%q, %v, want %q", s, h, want)
		}
		if o, n, h := tackle.Parse(want); !equal(o, b) || n != 0 || h != api.Smooth {
			t.Errorf("%q: %v, %d, %v", want, o, n, h)
		}
	}
	if s, h := tackle.Print(api.TackleBook{}); s != "" || h != api.Number {
		t.Errorf("%q, %v", s, h)
	}
}

func TestParseWrongLines(t *testing.T) {
	part, gear := "tackle 5\npart a 0 5\n", "tackle 5\npart a 0 5\ngear 0\n"
	for s, line := range map[string]int{
		"": 0, "\n": 1, "\n" + small: 1, "tackle": 1, "tackle\n": 1, "tackle 5 5\n": 1, "tackle x\n": 1, "tackle 5:6\n": 1, "tackle -\n": 1, "tackle 05\n": 1, "tackle -0\n": 1, "tackle +5\n": 1, "tackle 5 \n": 1, "tackle  5\n": 1, " tackle 5\n": 1, "Tackle 5\n": 1, "tackles 5\n": 1, "tackle 5\r\n": 1, "tackle 1234567890\n": 1,
		"part a 0 5\n": 1, "gear 0\n": 1, "piece p 1\n": 1, "test 0 1 held\n": 1, "part a 0 5\ntackle 5\n": 1, "tackle 5\ntackle 5\n": 2, "tackle 5\n\n": 2,
		"tackle 5\npart\n": 2, "tackle 5\npart a\n": 2, "tackle 5\npart a 0\n": 2, "tackle 5\npart a 0 5 5\n": 2, "tackle 5\npart a x 5\n": 2, "tackle 5\npart a 0:1 5\n": 2, "tackle 5\npart a 0 x\n": 2, "tackle 5\npart a 0 5:5\n": 2, "tackle 5\npart a 0 5:\n": 2, "tackle 5\npart a 0 5,6\n": 2, "tackle 5\npart a 0 -\n": 2, "tackle 5\npart  0 5\n": 2, "tackle 5\nparts a 0 5\n": 2, "tackle 5\nwater a 0 5\n": 2, "tackle 5\npart a 00 5\n": 2,
		part + "gear\n": 3, part + "gear 0 0\n": 3, part + "gear 0,\n": 3, part + "gear ,\n": 3, part + "gear x\n": 3, part + "gear 0:1\n": 3, part + "gear --\n": 3, part + "gear 0;1\n": 3, part + "gears 0\n": 3, part + "gear \n": 3, part + "tackle 5\n": 3,
		gear + "piece\n": 4, gear + "piece p\n": 4, gear + "piece p 1 1\n": 4, gear + "piece p x\n": 4, gear + "piece p 1:1\n": 4, gear + "piece p -\n": 4, gear + "piece  1\n": 4, gear + "pieces p 1\n": 4, gear + "part b 0 5\n": 4, gear + "tackle 5\n": 4,
		small + small: 5, small + "\n": 5, small + "part b 0 5\n": 5, small + "gear 0\n": 5, small + "test\n": 5, small + "test 0\n": 5, small + "test 0 1\n": 5, small + "test 0 1 held held\n": 5, small + "test x 1 held\n": 5, small + "test 0:1 1 held\n": 5, small + "test - 1 held\n": 5, small + "test 0 x held\n": 5, small + "test 0 1:2 held\n": 5, small + "test 0 1 Held\n": 5, small + "test 0 1 yes\n": 5, small + "test 0 1 -\n": 5, small + "test 0 1 0\n": 5, small + "test  0 1 held\n": 5, small + "tests 0 1 held\n": 5, small + "test held 0 1\n": 5,
		small + "test 0 1 held\npiece q 1\n": 6, small + "test 0 1 gave\ngear 0\n": 6, small + "test 0 1 held\npart b 0 5\n": 6, small + "test 0 1 held\ntackle 5\n": 6, small + "test 0 1 held\ntest 0 1 gave\n\n": 7,
		"tackle 999\npart A 9 999\ngear -\npiece A 0\ntest 9 0 held\ntest\n": 6, part + "test 0 1 held\npiece p 1\n": 4, part + "piece p 1\ngear 0\n": 4, strings.Repeat("\n", api.MaxText): 1,
	} {
		if b, n, h := tackle.Parse(s); !isZero(b) || n != line || h != api.Shape {
			t.Errorf("%.80q: %v, %d, %v, want line %d", s, b, n, h, line)
		}
	}
}

func TestParseHitches(t *testing.T) {
	for s, want := range map[string]api.Hitch{
		"tackle 5\n":                                        api.Number,
		"tackle 5":                                          api.Number,
		"tackle 5\ngear 0\npiece p 1\n":                     api.Number,
		"tackle 5\npiece p 1\n":                             api.Number,
		"tackle 5\ntest 0 1 held\n":                         api.Number,
		"tackle 5\npart a 0 5\n":                            api.Number,
		"tackle 5\npart a 0 5\npiece p 1\n":                 api.Number,
		"tackle 5\npart a 0 5\ngear 0\n":                    api.Number,
		"tackle 5\npart a 0 5\ngear 0\ntest 0 1 held\n":     api.Number,
		"tackle 5\npart a 0 5\ngear -\npiece p 1\n":         api.Number,
		"tackle -1\n" + small[len("tackle 5\n"):]:           api.Bounds,
		"tackle 100\n" + small[len("tackle 5\n"):]:          api.Bounds,
		"tackle 999999999\n":                                api.Bounds,
		"tackle 5\npart A 0 5\n":                            api.Label,
		"tackle 5\npart - 0 5\n":                            api.Label,
		"tackle 5\npart \xff 0 5":                           api.Label,
		"tackle 5\npart a 0 5\npart a 0 5\n":                api.Double,
		"tackle 5\npart a 5 5\n":                            api.Bounds,
		"tackle 5\npart a -1 5\n":                           api.Bounds,
		"tackle 5\npart a 0 7:5\n":                          api.Bounds,
		"tackle 5\npart a 0 5:8\n":                          api.Bounds,
		"tackle 5\npart a 0 -1\n":                           api.Bounds,
		"tackle 5\npart a 0 5\ngear 1\n":                    api.Missing,
		"tackle 5\npart a 0 5\ngear -1\n":                   api.Missing,
		"tackle 5\npart a 0 5\ngear 0,0\n":                  api.Double,
		"tackle 5\npart a 0 5\ngear 0\npiece P 1\n":         api.Label,
		"tackle 5\npart a 0 5\ngear 0\npiece p 0\n":         api.Bounds,
		"tackle 5\npart a 0 5\ngear 0\npiece p 1:4\n":       api.Bounds,
		small + "piece p 1\n":                               api.Double,
		small + "test 1 1 held\n":                           api.Missing,
		small + "test -1 1 held\n":                          api.Missing,
		small + "test 0 0 held\n":                           api.Bounds,
		small + "test 0 100 gave\n":                         api.Bounds,
		small + strings.Repeat("test 0 1 held\n", 4):        api.Number,
		"tackle 5\n" + strings.Repeat("part a 0 5\n", 2000): api.Number,
		strings.Repeat("t", api.MaxText+1):                  api.Number,
		strings.Repeat(textG, api.MaxText):                  api.Number,
	} {
		if b, n, h := tackle.Parse(s); !isZero(b) || n != 0 || h != want {
			t.Errorf("%.80q: %v, %d, %v", s, b, n, h)
		}
	}
	// A book without a case is read, with its last line feed or without it.
	if b, n, h := tackle.Parse(textH + "test 0 21 gave"); !equal(b, adriftBook()) || n != 0 || h != api.Smooth {
		t.Errorf("%v, %d, %v", b, n, h)
	}
	// A text as long as the limit is read: its first line is wrong.
	if b, n, h := tackle.Parse(strings.Repeat("t", api.MaxText)); !isZero(b) || n != 1 || h != api.Shape {
		t.Errorf("%v, %d, %v", b, n, h)
	}
}
