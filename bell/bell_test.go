package bell_test

import (
	"math"
	"math/rand"
	"slices"
	"strings"
	"testing"

	"lagan/api"
	"lagan/bell"
	"lagan/model"
)

// Tests of P4.1 to P4.5: what the functions return.

func TestCheckBook(t *testing.T) {
	men := func(names ...string) []api.BellMan {
		var all []api.BellMan
		for _, s := range names {
			all = append(all, api.BellMan{Name: s, Breath: one(1)})
		}
		return all
	}
	for name, x := range map[string]struct {
		change func(b *api.BellBook)
		want   api.Hitch
	}{
		"as it is":                   {func(b *api.BellBook) {}, api.Smooth},
		"no room":                    {func(b *api.BellBook) { b.Room = 0 }, api.Bounds},
		"least room":                 {func(b *api.BellBook) { b.Room = 1 }, api.Smooth},
		"most room":                  {func(b *api.BellBook) { b.Room = 99 }, api.Smooth},
		"too much room":              {func(b *api.BellBook) { b.Room = 100 }, api.Bounds},
		"any room":                   {func(b *api.BellBook) { b.Room = math.MinInt }, api.Bounds},
		"above the water":            {func(b *api.BellBook) { b.Depth = -1 }, api.Bounds},
		"no depth":                   {func(b *api.BellBook) { b.Depth = 0 }, api.Smooth},
		"greatest depth":             {func(b *api.BellBook) { b.Depth = 99 }, api.Smooth},
		"too deep":                   {func(b *api.BellBook) { b.Depth = 100 }, api.Bounds},
		"least below":                {func(b *api.BellBook) { b.Least = -1 }, api.Bounds},
		"no least":                   {func(b *api.BellBook) { b.Least = 0 }, api.Smooth},
		"greatest least":             {func(b *api.BellBook) { b.Least = 99 }, api.Smooth},
		"least above":                {func(b *api.BellBook) { b.Least = 100 }, api.Bounds},
		"no minutes":                 {func(b *api.BellBook) { b.Minutes = 0 }, api.Bounds},
		"one minute":                 {func(b *api.BellBook) { b.Minutes, b.Pumped = 1, one(1) }, api.Smooth},
		"eight minutes":              {func(b *api.BellBook) { b.Minutes = 8 }, api.Smooth},
		"nine minutes":               {func(b *api.BellBook) { b.Minutes = 9 }, api.Bounds},
		"any minutes":                {func(b *api.BellBook) { b.Minutes = math.MaxInt }, api.Bounds},
		"lamps below":                {func(b *api.BellBook) { b.Lamps = -1 }, api.Bounds},
		"no lamps":                   {func(b *api.BellBook) { b.Lamps = 0 }, api.Smooth},
		"most lamps":                 {func(b *api.BellBook) { b.Lamps = 99 }, api.Smooth},
		"lamps above":                {func(b *api.BellBook) { b.Lamps = 100 }, api.Bounds},
		"cask below":                 {func(b *api.BellBook) { b.Cask = -1 }, api.Bounds},
		"empty cask":                 {func(b *api.BellBook) { b.Cask = 0 }, api.Smooth},
		"greatest cask":              {func(b *api.BellBook) { b.Cask = 99 }, api.Smooth},
		"cask above":                 {func(b *api.BellBook) { b.Cask = 100 }, api.Bounds},
		"pump below":                 {func(b *api.BellBook) { b.Pump = -1 }, api.Bounds},
		"no pump":                    {func(b *api.BellBook) { b.Pump = 0 }, api.Smooth},
		"strongest pump":             {func(b *api.BellBook) { b.Pump = 99 }, api.Smooth},
		"pump above":                 {func(b *api.BellBook) { b.Pump = 100 }, api.Bounds},
		"casks below":                {func(b *api.BellBook) { b.Casks = -1 }, api.Bounds},
		"no casks":                   {func(b *api.BellBook) { b.Casks = 0 }, api.Smooth},
		"three casks":                {func(b *api.BellBook) { b.Casks = 3 }, api.Smooth},
		"four casks":                 {func(b *api.BellBook) { b.Casks = 4 }, api.Bounds},
		"pumped in all minutes":      {func(b *api.BellBook) { b.Pumped = reach(1, 5) }, api.Smooth},
		"pumped in the last minute":  {func(b *api.BellBook) { b.Pumped = one(5) }, api.Smooth},
		"pumped before":              {func(b *api.BellBook) { b.Pumped = reach(0, 1) }, api.Bounds},
		"pumped behind":              {func(b *api.BellBook) { b.Pumped = reach(5, 6) }, api.Bounds},
		"pumped, turned":             {func(b *api.BellBook) { b.Pumped = reach(2, 1) }, api.Bounds},
		"any pumped":                 {func(b *api.BellBook) { b.Pumped = reach(math.MinInt, math.MaxInt) }, api.Bounds},
		"least leak":                 {func(b *api.BellBook) { b.Leak = reach(0, 2) }, api.Smooth},
		"greatest leak":              {func(b *api.BellBook) { b.Leak = reach(97, 99) }, api.Smooth},
		"leak below":                 {func(b *api.BellBook) { b.Leak = reach(-1, 0) }, api.Bounds},
		"leak above":                 {func(b *api.BellBook) { b.Leak = reach(99, 100) }, api.Bounds},
		"leak turned":                {func(b *api.BellBook) { b.Leak = reach(1, 0) }, api.Bounds},
		"leak of four numbers":       {func(b *api.BellBook) { b.Leak = reach(0, 3) }, api.Bounds},
		"any leak":                   {func(b *api.BellBook) { b.Leak = reach(math.MinInt, math.MaxInt) }, api.Bounds},
		"nobody":                     {func(b *api.BellBook) { b.Men = nil }, api.Smooth},
		"three men":                  {func(b *api.BellBook) { b.Men = men("a", "b", "c") }, api.Smooth},
		"four men":                   {func(b *api.BellBook) { b.Men = men("a", "b", "c", "d") }, api.Number},
		"no name":                    {func(b *api.BellBook) { b.Men[0].Name = "" }, api.Label},
		"a name that is no label":    {func(b *api.BellBook) { b.Men[1].Name = "Bo" }, api.Label},
		"a name with a blank":        {func(b *api.BellBook) { b.Men[1].Name = "b o" }, api.Label},
		"a name that begins wrong":   {func(b *api.BellBook) { b.Men[1].Name = "2bo" }, api.Label},
		"a longest name":             {func(b *api.BellBook) { b.Men[1].Name = "abcdefghijk9" }, api.Smooth},
		"a longer name":              {func(b *api.BellBook) { b.Men[1].Name = "abcdefghijklm" }, api.Label},
		"a name twice":               {func(b *api.BellBook) { b.Men[1].Name = "ann" }, api.Double},
		"a name twice, apart":        {func(b *api.BellBook) { b.Men = men("a", "b", "a") }, api.Double},
		"least breath":               {func(b *api.BellBook) { b.Men[0].Breath = reach(1, 3) }, api.Smooth},
		"greatest breath":            {func(b *api.BellBook) { b.Men[0].Breath = reach(97, 99) }, api.Smooth},
		"breath below":               {func(b *api.BellBook) { b.Men[0].Breath = reach(0, 1) }, api.Bounds},
		"breath above":               {func(b *api.BellBook) { b.Men[1].Breath = reach(99, 100) }, api.Bounds},
		"breath turned":              {func(b *api.BellBook) { b.Men[1].Breath = reach(2, 1) }, api.Bounds},
		"breath of four numbers":     {func(b *api.BellBook) { b.Men[1].Breath = reach(1, 4) }, api.Bounds},
		"any breath":                 {func(b *api.BellBook) { b.Men[1].Breath = reach(math.MaxInt, math.MinInt) }, api.Bounds},
		"sent in the last minutes":   {func(b *api.BellBook) { b.Sent = []int{4, 5} }, api.Smooth},
		"sent before":                {func(b *api.BellBook) { b.Sent = []int{0} }, api.Missing},
		"sent behind":                {func(b *api.BellBook) { b.Sent = []int{1, 6} }, api.Missing},
		"sent at any time":           {func(b *api.BellBook) { b.Sent = []int{math.MinInt} }, api.Missing},
		"sent twice":                 {func(b *api.BellBook) { b.Sent = []int{2, 2} }, api.Crossed},
		"sent out of order":          {func(b *api.BellBook) { b.Sent = []int{2, 1} }, api.Crossed},
		"too many sent":              {func(b *api.BellBook) { b.Sent = []int{1, 2, 3} }, api.Lacking},
		"as many sent as there are":  {func(b *api.BellBook) { b.Casks, b.Sent = 3, []int{1, 2, 3} }, api.Smooth},
		"three marks":                {func(b *api.BellBook) { b.Marks = slices.Repeat(bookC().Marks, 3) }, api.Smooth},
		"four marks":                 {func(b *api.BellBook) { b.Marks = slices.Repeat(bookC().Marks, 4) }, api.Number},
		"a mark before":              {func(b *api.BellBook) { b.Marks = []api.BellMark{{Minute: 0}} }, api.Missing},
		"a mark behind":              {func(b *api.BellBook) { b.Marks = []api.BellMark{{Minute: 6}} }, api.Missing},
		"a mark at any time":         {func(b *api.BellBook) { b.Marks = []api.BellMark{{Minute: math.MaxInt}} }, api.Missing},
		"a mark in the last minute":  {func(b *api.BellBook) { b.Marks = []api.BellMark{{Minute: 5, Dry: reach(0, 99)}} }, api.Smooth},
		"a mark in the first minute": {func(b *api.BellBook) { b.Marks = []api.BellMark{{Minute: 1, Dry: one(99)}} }, api.Smooth},
		"dry below":                  {func(b *api.BellBook) { b.Marks = []api.BellMark{{Minute: 1, Dry: reach(-1, 0)}} }, api.Bounds},
		"dry above":                  {func(b *api.BellBook) { b.Marks = []api.BellMark{{Minute: 1, Dry: reach(0, 100)}} }, api.Bounds},
		"dry turned":                 {func(b *api.BellBook) { b.Marks = []api.BellMark{{Minute: 1, Dry: reach(1, 0)}} }, api.Bounds},

		"pumped, then men":      {func(b *api.BellBook) { b.Pumped, b.Men = one(6), men("a", "b", "c", "d") }, api.Bounds},
		"leak, then men":        {func(b *api.BellBook) { b.Leak, b.Men = reach(0, 3), men("a", "b", "c", "d") }, api.Bounds},
		"casks, then sent":      {func(b *api.BellBook) { b.Casks, b.Sent = 4, []int{0} }, api.Bounds},
		"many men, then who":    {func(b *api.BellBook) { b.Men = men("", "", "", "") }, api.Number},
		"label, then double":    {func(b *api.BellBook) { b.Men = men("a", "A", "A") }, api.Label},
		"label, then breath":    {func(b *api.BellBook) { b.Men[0] = api.BellMan{Name: "A"} }, api.Label},
		"double, then breath":   {func(b *api.BellBook) { b.Men[1] = api.BellMan{Name: "ann"} }, api.Double},
		"man by man, breath":    {func(b *api.BellBook) { b.Men[0].Breath, b.Men[1].Name = one(0), "Bo" }, api.Bounds},
		"man by man, double":    {func(b *api.BellBook) { b.Men = men("a", "a", "") }, api.Double},
		"men, then sent":        {func(b *api.BellBook) { b.Men[1].Breath, b.Sent = one(0), []int{0} }, api.Bounds},
		"number by number":      {func(b *api.BellBook) { b.Sent = []int{2, 2, 6} }, api.Crossed},
		"number by number, too": {func(b *api.BellBook) { b.Sent = []int{2, 6, 2} }, api.Missing},
		"there, then above":     {func(b *api.BellBook) { b.Sent = []int{2, 0} }, api.Missing},
		"plan, then casks":      {func(b *api.BellBook) { b.Sent = []int{1, 2, 3, 3} }, api.Crossed},
		"sent, then marks":      {func(b *api.BellBook) { b.Sent, b.Marks = []int{1, 2, 3}, make([]api.BellMark, 4) }, api.Lacking},
		"many marks, then of":   {func(b *api.BellBook) { b.Marks = make([]api.BellMark, 4) }, api.Number},
		"minute, then dry":      {func(b *api.BellBook) { b.Marks = []api.BellMark{{Minute: 6, Dry: reach(1, 0)}} }, api.Missing},
		"mark by mark": {func(b *api.BellBook) {
			b.Marks = []api.BellMark{{Minute: 1, Dry: reach(1, 0)}, {Minute: 6}}
		}, api.Bounds},
	} {
		b := bookB()
		x.change(&b)
		if h := bell.CheckBook(b); h != x.want {
			t.Errorf("%s: %v, want %v", name, h, x.want)
		}
	}
}

func TestDry(t *testing.T) {
	for i, x := range []struct {
		depth, air, want int
		h                api.Hitch
	}{
		{33, 37, 18, api.Smooth}, {33, 0, 0, api.Smooth}, {33, 1, 0, api.Smooth}, {33, 2, 1, api.Smooth}, {33, 60, 30, api.Smooth}, {33, 999, 499, api.Smooth},
		{0, 0, 0, api.Smooth}, {0, 37, 37, api.Smooth}, {0, 999, 999, api.Smooth}, {99, 999, 249, api.Smooth}, {99, 3, 0, api.Smooth}, {99, 4, 1, api.Smooth}, {1, 33, 32, api.Smooth}, {1, 34, 33, api.Smooth}, {10, 30, 23, api.Smooth},
		{33, -1, 0, api.Bounds}, {33, 1000, 0, api.Bounds}, {33, math.MinInt, 0, api.Bounds}, {33, math.MaxInt, 0, api.Bounds},
	} {
		for _, b := range []api.BellBook{bookB(), adriftBook()} {
			b.Depth = x.depth
			if n, h := bell.Dry(b, x.air); n != x.want || h != x.h {
				t.Errorf("%d: %d, %v", i, n, h)
			}
		}
	}
	for depth := range 100 {
		b := bookB()
		b.Depth = depth
		for air := 0; air <= 999; air += 13 {
			if n, h := bell.Dry(b, air); n != modelDry(depth, air) || h != api.Smooth {
				t.Errorf("%d feet, %d measures: %d, %v", depth, air, n, h)
			}
		}
	}
}

func TestHolds(t *testing.T) {
	for i, x := range []struct{ room, depth, want int }{
		{30, 33, 60}, {30, 0, 30}, {30, 1, 30}, {30, 2, 31}, {30, 11, 40}, {30, 34, 60}, {30, 99, 120}, {1, 99, 4}, {1, 98, 3}, {99, 99, 396}, {99, 0, 99}, {99, 1, 102},
	} {
		for _, b := range []api.BellBook{bookB(), adriftBook()} {
			b.Room, b.Depth = x.room, x.depth
			if n, h := bell.Holds(b); n != x.want || h != api.Smooth {
				t.Errorf("%d: %d, %v", i, n, h)
			}
		}
	}
	for depth := range 100 {
		b := bookB()
		for b.Room = 1; b.Room < 100; b.Room += 7 {
			b.Depth = depth
			if n, h := bell.Holds(b); n != modelHolds(b.Room, depth) || h != api.Smooth {
				t.Errorf("%d divisions, %d feet: %d, %v", b.Room, depth, n, h)
			}
		}
	}
}

func TestPlay(t *testing.T) {
	small := bookB()
	small.Depth = 0
	wasteful := bookB()
	wasteful.Lamps, wasteful.Cask = 99, 99
	for i, x := range []struct {
		b    api.BellBook
		c    api.BellCase
		plan []int
		want []int
	}{
		{bookB(), airCase(0, 3, 4), []int{1}, []int{44, 38, 29, 20, 11}},
		{bookB(), airCase(1, 4, 4), []int{1, 3}, []int{42, 34, 43, 32, 21}},
		{bookB(), airCase(1, 4, 4), []int{1, 2}, []int{42, 49, 38, 27, 16}},
		// What is no case of the book is played, too, and never is there less than none.
		{bookB(), airCase(2, 9, 9), nil, []int{11, 0, 0, 0, 0}},
		{bookB(), airCase(99, 99, 99), []int{2, 5}, []int{0, 0, 0, 0, 0}},
		{bookB(), airCase(0, 0, 0), nil, []int{31, 32, 30, 28, 26}},
		// Casks and the pump come before what bubbles out, and that before what is used.
		{bookB(), airCase(0, 0, 0), []int{1, 2}, []int{51, 58, 56, 54, 52}},
		{bookB(), airCase(0, 0, 0), []int{1, 3}, []int{51, 52, 58, 56, 54}},
		{small, airCase(0, 3, 4), []int{1, 2}, []int{21, 21, 12, 3, 0}},
		{small, airCase(0, 3, 4), nil, []int{21, 15, 6, 0, 0}},
		// What was used up is not owed.
		{wasteful, airCase(0, 3, 4), []int{3, 5}, []int{0, 0, 0, 0, 0}},
		{wasteful, airCase(0, 0, 0), []int{3, 5}, []int{0, 0, 0, 0, 0}},
	} {
		for _, b := range []api.BellBook{x.b, marked(x.b, adriftBook().Marks...), sent(x.b, 4)} {
			if l, h := bell.Play(b, x.c, x.plan); !slices.Equal(l, x.want) || h != api.Smooth {
				t.Errorf("%d: %v, %v", i, l, h)
			}
		}
	}
}

func TestPlayAsReckonedOtherwise(t *testing.T) {
	eachRandom(200, func(r *rand.Rand, b api.BellBook) {
		for _, c := range modelAll(b, 1) {
			plan := randomPlan(r, b)
			if l, h := bell.Play(b, c, plan); !slices.Equal(l, modelAir(b, c, plan)) || h != api.Smooth {
				t.Fatalf("Play(%v, %v, %v): %v, %v, want %v", b, c, plan, l, h, modelAir(b, c, plan))
			}
			if is, h := bell.IsCase(b, c); is != modelIs(b, c) || h != api.Smooth {
				t.Fatalf("IsCase(%v, %v): %v, %v", b, c, is, h)
			}
		}
	})
}

func TestIsCase(t *testing.T) {
	late := marked(bookB(), api.BellMark{Minute: 2, Dry: reach(7, 8)})
	casked := marked(sent(bookB(), 2), api.BellMark{Minute: 2, Dry: reach(17, 18)})
	for i, x := range []struct {
		b    api.BellBook
		c    api.BellCase
		want bool
	}{
		{bookB(), airCase(0, 3, 4), true}, {bookB(), airCase(1, 4, 4), true}, {bookB(), airCase(2, 3, 4), false}, {bookB(), airCase(0, 2, 4), false}, {bookB(), airCase(0, 5, 4), false}, {bookB(), airCase(0, 3, 3), false}, {bookB(), airCase(0, 3, 5), false}, {bookB(), airCase(0, 4, 3), false},
		{bookC(), airCase(0, 3, 4), false}, {bookC(), airCase(0, 4, 4), true}, {bookC(), airCase(1, 3, 4), true}, {bookC(), airCase(1, 4, 4), true}, {bookC(), airCase(2, 3, 4), false},
		{late, airCase(0, 3, 4), false}, {late, airCase(0, 4, 4), true}, {late, airCase(1, 4, 4), true},
		{casked, airCase(0, 3, 4), false}, {casked, airCase(0, 4, 4), true}, {casked, airCase(1, 4, 4), true},
		{adriftBook(), airCase(0, 3, 4), false}, {adriftBook(), airCase(0, 4, 4), false},
	} {
		if is, h := bell.IsCase(x.b, x.c); is != x.want || h != api.Smooth {
			t.Errorf("%d: %v, %v", i, is, h)
		}
	}
	alone := bookB()
	alone.Men = nil
	if is, h := bell.IsCase(alone, airCase(1)); !is || h != api.Smooth {
		t.Errorf("nobody: %v, %v", is, h)
	}
}

func TestCaseHitches(t *testing.T) {
	for i, x := range []struct {
		b    api.BellBook
		c    api.BellCase
		plan []int
		want api.Hitch
	}{
		{bookB(), airCase(0, 0, 99), nil, api.Smooth},
		{bookB(), airCase(99, 99, 0), []int{4, 5}, api.Smooth},
		{bookB(), airCase(-1), []int{0}, api.Bounds},
		{bookB(), airCase(100), nil, api.Bounds},
		{bookB(), airCase(math.MinInt, 3, 4), nil, api.Bounds},
		{bookB(), airCase(0), []int{0}, api.Number},
		{bookB(), airCase(0, 100), []int{0}, api.Number},
		{bookB(), airCase(0, 3, 4, 5), nil, api.Number},
		{bookB(), airCase(0, 100, 4), []int{0}, api.Bounds},
		{bookB(), airCase(0, 3, -1), []int{2, 2}, api.Bounds},
		{bookB(), airCase(0, math.MaxInt, math.MinInt), nil, api.Bounds},
		{api.BellBook{}, airCase(0), []int{0}, api.Bounds},
		{func() api.BellBook { b := bookB(); b.Men = append(b.Men, b.Men...); return b }(), airCase(-1), []int{0}, api.Number},
	} {
		l, h := bell.Play(x.b, x.c, x.plan)
		if h != x.want || (l == nil) != (h != api.Smooth) {
			t.Errorf("%d: Play: %v, %v", i, l, h)
		}
		if is, h := bell.IsCase(x.b, x.c); is || h != x.want {
			t.Errorf("%d: IsCase: %v, %v", i, is, h)
		}
	}
}

// planned are the functions to which a plan is handed in; each tells whether its results are zero values, and returns its hitch.
func planned(b api.BellBook, plan []int, minute int) []func() (bool, api.Hitch) {
	return []func() (bool, api.Hitch){func() (bool, api.Hitch) {
		x, h := bell.Air(b, plan, minute)
		return x == one(0), h
	}, func() (bool, api.Hitch) {
		u, h := bell.Good(b, plan)
		return u == 0, h
	}, func() (bool, api.Hitch) {
		n, found, h := bell.Bad(b, plan)
		return n == 0 && !found, h
	}, func() (bool, api.Hitch) {
		n, found, h := bell.Deepest(b, plan)
		return n == 0 && !found, h
	}, func() (bool, api.Hitch) {
		l, found, h := bell.Crew(b, plan)
		return l == nil && !found, h
	}}
}

func TestPlanHitches(t *testing.T) {
	for i, x := range []struct {
		plan []int
		want api.Hitch
	}{
		{[]int{0}, api.Missing}, {[]int{6}, api.Missing}, {[]int{-1}, api.Missing}, {[]int{math.MinInt}, api.Missing}, {[]int{math.MaxInt}, api.Missing}, {[]int{1, 6, 1}, api.Missing}, {[]int{2, 1, 6}, api.Crossed}, {[]int{2, 2}, api.Crossed}, {[]int{1, 2, 2}, api.Crossed}, {[]int{1, 2, 3}, api.Lacking}, {[]int{1, 2, 3, 4, 5}, api.Lacking}, {make([]int, 100000), api.Missing},
	} {
		for _, b := range []api.BellBook{bookB(), adriftBook()} {
			model.CheckZero(t, x.want, planned(b, x.plan, 0)...)
			if l, h := bell.Play(b, airCase(0, 3, 4), x.plan); l != nil || h != x.want {
				t.Errorf("%d: %v, %v", i, l, h)
			}
		}
	}
	none := bookB()
	none.Casks = 0
	model.CheckZero(t, api.Lacking, planned(none, []int{1}, 1)...)
}

func TestCasesOfB(t *testing.T) {
	for i, x := range []struct {
		b          api.BellBook
		many       int
		leaks, ann []int
		h          api.Hitch
	}{
		{bookB(), 4, []int{0, 1}, []int{3, 4}, api.Smooth},
		{bookC(), 3, []int{0, 1}, []int{3, 4}, api.Smooth},
		{marked(bookB(), api.BellMark{Minute: 1, Dry: one(12)}), 1, []int{0}, []int{3}, api.Smooth},
		{marked(sent(bookB(), 1), api.BellMark{Minute: 3, Dry: one(14)}), 1, []int{0}, []int{3}, api.Smooth},
		{adriftBook(), 0, nil, nil, api.Adrift},
	} {
		if n := mustCases(t, x.b); n != x.many {
			t.Errorf("%d: Cases: %d", i, n)
		}
		if l, h := bell.Leaks(x.b); !slices.Equal(l, x.leaks) || h != x.h {
			t.Errorf("%d: Leaks: %v, %v", i, l, h)
		}
		if l, h := bell.Breaths(x.b, 0); !slices.Equal(l, x.ann) || h != x.h {
			t.Errorf("%d: Breaths: %v, %v", i, l, h)
		}
		if l, h := bell.Breaths(x.b, 1); (h == api.Smooth) != slices.Equal(l, []int{4}) || h != x.h {
			t.Errorf("%d: Breaths of bo: %v, %v", i, l, h)
		}
	}
}

func TestCasesAtTheLimits(t *testing.T) {
	b := api.BellBook{Room: 99, Depth: 99, Least: 99, Minutes: 8, Lamps: 99, Cask: 99, Casks: 3, Pump: 99, Leak: reach(97, 99), Pumped: reach(1, 8)}
	for _, s := range []string{"a", "b", "c"} {
		b.Men = append(b.Men, api.BellMan{Name: s, Breath: reach(97, 99)})
	}
	b.Sent = []int{6, 7, 8}
	if n := mustCases(t, b); n != 81 {
		t.Errorf("without marks: %d", n)
	}
	b.Marks = []api.BellMark{{Minute: 8, Dry: reach(0, 99)}, {Minute: 1, Dry: one(0)}, {Minute: 7, Dry: reach(0, 98)}}
	if n := mustCases(t, b); n != len(modelCases(b)) || n == 0 {
		t.Errorf("with marks: %d, want %d", n, len(modelCases(b)))
	}
	if l, found, h := bell.Fewest(b); l != nil || found || h != api.Smooth {
		t.Errorf("Fewest: %v, %v, %v", l, found, h)
	}
	b.Least, b.Leak, b.Men, b.Sent, b.Marks = 49, one(0), nil, nil, nil
	if l, found, h := bell.Fewest(b); !slices.Equal(l, []int{1}) || !found || h != api.Smooth {
		t.Errorf("Fewest: %v, %v, %v", l, found, h)
	}
}

func TestCasesAsReckonedOtherwise(t *testing.T) {
	adrift := 0
	eachRandom(300, func(r *rand.Rand, b api.BellBook) {
		cases := modelCases(b)
		if n := mustCases(t, b); n != len(cases) {
			t.Fatalf("Cases(%v): %d, want %d", b, n, len(cases))
		}
		plan := randomPlan(r, b)
		if len(cases) == 0 {
			adrift++
			checkAdrift(t, b, plan)
			return
		}
		checkNumbers(t, b, cases)
		checkAir(t, b, cases, plan)
		checkPlans(t, b, cases)
		checkDepthAndCrew(t, b, cases, plan)
		checkAsk(t, b, cases)
	})
	if adrift < 20 || adrift > 200 {
		t.Errorf("%d books of 300 had no case", adrift)
	}
}

// checkAdrift checks what is told of a book that has no case.
func checkAdrift(t *testing.T, b api.BellBook, plan []int) {
	t.Helper()
	model.CheckZero(t, api.Adrift, planned(b, plan, 1)...)
	model.CheckZero(t, api.Adrift, questions(b)...)
	model.CheckZero(t, api.Adrift, func() (bool, api.Hitch) {
		o, h := bell.Caulk(b, reach(0, 99))
		return isZero(o), h
	})
	for i := range b.Men {
		model.CheckZero(t, api.Adrift, func() (bool, api.Hitch) {
			l, h := bell.Breaths(b, i)
			return l == nil, h
		}, func() (bool, api.Hitch) {
			o, h := bell.Breathe(b, i, reach(1, 99))
			return isZero(o), h
		})
	}
}

// checkNumbers checks what is told of the numbers that cases have.
func checkNumbers(t *testing.T, b api.BellBook, cases []api.BellCase) {
	t.Helper()
	want := modelNumbers(cases, func(c api.BellCase) int { return c.Leak })
	if l, h := bell.Leaks(b); !slices.Equal(l, want) || h != api.Smooth {
		t.Errorf("Leaks(%v): %v, %v, want %v", b, l, h, want)
	}
	for i := range b.Men {
		want := modelNumbers(cases, func(c api.BellCase) int { return c.Breaths[i] })
		if l, h := bell.Breaths(b, i); !slices.Equal(l, want) || h != api.Smooth {
			t.Errorf("Breaths(%v, %d): %v, %v, want %v", b, i, l, h, want)
		}
	}
}

// checkAir checks what is told of the air by a plan.
func checkAir(t *testing.T, b api.BellBook, cases []api.BellCase, plan []int) {
	t.Helper()
	bad := 0
	for minute := 1; minute <= b.Minutes; minute++ {
		var air []int
		for _, c := range cases {
			air = append(air, modelAir(b, c, plan)[minute-1])
		}
		want := reach(slices.Min(air), slices.Max(air))
		if x, h := bell.Air(b, plan, minute); x != want || h != api.Smooth {
			t.Errorf("Air(%v, %v, %d): %v, %v, want %v", b, plan, minute, x, h, want)
		}
		if bad == 0 && modelDry(b.Depth, want.Least) < b.Least {
			bad = minute
		}
	}
	if n, found, h := bell.Bad(b, plan); n != bad || found != (bad > 0) || h != api.Smooth {
		t.Errorf("Bad(%v, %v): %d, %v, %v, want %d", b, plan, n, found, h, bad)
	}
	want := model.Known(cases, func(c api.BellCase) bool { return modelBad(b, b.Depth, modelAir(b, c, plan)) == 0 })
	if u, h := bell.Good(b, plan); u != want || h != api.Smooth {
		t.Errorf("Good(%v, %v): %v, %v, want %v", b, plan, u, h, want)
	}
}

// checkPlans checks the plans with the fewest casks.
func checkPlans(t *testing.T, b api.BellBook, cases []api.BellCase) {
	t.Helper()
	var first, last []int
	plans := goodPlans(b, cases)
	if len(plans) > 0 {
		first = slices.MinFunc(plans, model.CompareLists)
		last = first
		for _, l := range plans {
			if len(l) == len(first) && slices.Compare(l, last) > 0 {
				last = l
			}
		}
	}
	if l, found, h := bell.Fewest(b); !slices.Equal(l, first) || found != (len(plans) > 0) || h != api.Smooth {
		t.Errorf("Fewest(%v): %v, %v, %v, want %v of %d", b, l, found, h, first, len(plans))
	}
	if l, found, h := bell.Latest(b); !slices.Equal(l, last) || found != (len(plans) > 0) || h != api.Smooth {
		t.Errorf("Latest(%v): %v, %v, %v, want %v of %d", b, l, found, h, last, len(plans))
	}
}

// checkDepthAndCrew checks how deep the air is good by a plan, and with how many men.
func checkDepthAndCrew(t *testing.T, b api.BellBook, cases []api.BellCase, plan []int) {
	t.Helper()
	depth := api.MaxBellDepth
	for depth >= 0 && !modelSure(b, cases, depth, plan, everybody(b)) {
		depth--
	}
	if n, found, h := bell.Deepest(b, plan); n != max(0, depth) || found != (depth >= 0) || h != api.Smooth {
		t.Errorf("Deepest(%v, %v): %d, %v, %v, want %d", b, plan, n, found, h, depth)
	}
	var most []int
	some := false
	for _, men := range model.Lists(len(b.Men)) {
		if !modelSure(b, cases, b.Depth, plan, men) {
			continue
		}
		if !some || len(men) > len(most) || len(men) == len(most) && slices.Compare(men, most) < 0 {
			some, most = true, men
		}
	}
	if l, found, h := bell.Crew(b, plan); !slices.Equal(l, most) || found != some || h != api.Smooth {
		t.Errorf("Crew(%v, %v): %v, %v, %v, want %v, %v", b, plan, l, found, h, most, some)
	}
}

// checkAsk checks whose breath is to be measured.
func checkAsk(t *testing.T, b api.BellBook, cases []api.BellCase) {
	t.Helper()
	man, fewest := -1, len(cases)
	for i, m := range b.Men {
		most := 0
		for n := m.Breath.Least; n <= m.Breath.Most; n++ {
			same := 0
			for _, c := range cases {
				if c.Breaths[i] == n {
					same++
				}
			}
			most = max(most, same)
		}
		if most < fewest {
			man, fewest = i, most
		}
	}
	if i, left, h := bell.Ask(b); i != man || left != fewest || h != api.Smooth {
		t.Errorf("Ask(%v): %d, %d, %v, want %d, %d", b, i, left, h, man, fewest)
	}
}

func TestWhatIsNotThere(t *testing.T) {
	for _, b := range []api.BellBook{bookB(), adriftBook()} {
		for _, i := range []int{-1, 2, math.MinInt, math.MaxInt} {
			if l, h := bell.Breaths(b, i); l != nil || h != api.Missing {
				t.Errorf("Breaths %d: %v, %v", i, l, h)
			}
			if o, h := bell.Breathe(b, i, reach(5, 4)); !isZero(o) || h != api.Missing {
				t.Errorf("Breathe %d: %v, %v", i, o, h)
			}
		}
		for _, minute := range []int{-1, 0, 6, math.MinInt, math.MaxInt} {
			if x, h := bell.Air(b, []int{1}, minute); x != one(0) || h != api.Missing {
				t.Errorf("Air %d: %v, %v", minute, x, h)
			}
			if o, h := bell.Send(b, minute); !isZero(o) || h != api.Missing {
				t.Errorf("Send %d: %v, %v", minute, o, h)
			}
		}
	}
}

func TestAirOfB(t *testing.T) {
	for i, x := range []struct {
		plan []int
		air  []api.Reach
		good api.Known
		bad  int
	}{
		{[]int{1, 3}, []api.Reach{reach(42, 44), reach(34, 38), reach(43, 49), reach(32, 40), reach(21, 31)}, api.Surely, 0},
		{[]int{1, 2}, []api.Reach{reach(42, 44), reach(49, 51), reach(38, 42), reach(27, 33), reach(16, 24)}, api.Unsure, 5},
		{nil, []api.Reach{reach(22, 24), reach(14, 18), reach(3, 9), one(0), one(0)}, api.Never, 2},
		{[]int{5}, []api.Reach{reach(22, 24), reach(14, 18), reach(3, 9), one(0), reach(9, 11)}, api.Never, 2},
	} {
		for k, want := range x.air {
			if r, h := bell.Air(bookB(), x.plan, k+1); r != want || h != api.Smooth {
				t.Errorf("%d: Air %d: %v, %v", i, k+1, r, h)
			}
		}
		if u, h := bell.Good(bookB(), x.plan); u != x.good || h != api.Smooth {
			t.Errorf("%d: Good: %v, %v", i, u, h)
		}
		if n, found, h := bell.Bad(bookB(), x.plan); n != x.bad || found != (x.bad > 0) || h != api.Smooth {
			t.Errorf("%d: Bad: %v, %v, %v", i, n, found, h)
		}
	}
	// The air is bad in the last minute of one case, and in the first one of another.
	b := bookB()
	b.Minutes, b.Least, b.Pumped = 2, 11, one(1)
	for _, x := range []struct{ least, bad int }{{11, 2}, {12, 1}, {5, 0}, {6, 2}} {
		b.Least = x.least
		if n, found, h := bell.Bad(b, nil); n != x.bad || found != (x.bad > 0) || h != api.Smooth {
			t.Errorf("%d: Bad: %v, %v, %v", x.least, n, found, h)
		}
	}
}

func TestPlans(t *testing.T) {
	one1 := bookB()
	one1.Casks = 1
	idle := bookB()
	idle.Men = nil
	shut := marked(bookB(), api.BellMark{Minute: 5, Dry: reach(0, 99)})
	for i, x := range []struct {
		b             api.BellBook
		first, latest []int
		found         bool
	}{
		{bookB(), []int{1, 3}, []int{2, 4}, true},
		{sent(bookB(), 1), []int{1, 3}, []int{1, 4}, true},
		{sent(bookB(), 2), []int{2, 3}, []int{2, 4}, true},
		// With both casks sent, or the only good minutes past, no plan that goes on is good.
		{sent(bookB(), 1, 2), nil, nil, false},
		{sent(bookB(), 3), nil, nil, false},
		{sent(bookB(), 2, 4), []int{2, 4}, []int{2, 4}, true},
		{bookC(), []int{2, 3}, []int{2, 4}, true},
		{marked(bookB(), api.BellMark{Minute: 2, Dry: reach(7, 9)}), nil, nil, false},
		{marked(sent(bookB(), 2, 4), api.BellMark{Minute: 5, Dry: reach(0, 99)}), []int{2, 4}, []int{2, 4}, true},
		{shut, nil, nil, false},
		{idle, nil, nil, true},
		// A cask that was sent is in each plan, though the air is good without it.
		{sent(idle, 3), []int{3}, []int{3}, true},
		{one1, nil, nil, false},
	} {
		if l, found, h := bell.Fewest(x.b); !slices.Equal(l, x.first) || found != x.found || h != api.Smooth {
			t.Errorf("%d: Fewest: %v, %v, %v", i, l, found, h)
		}
		if l, found, h := bell.Latest(x.b); !slices.Equal(l, x.latest) || found != x.found || h != api.Smooth {
			t.Errorf("%d: Latest: %v, %v, %v", i, l, found, h)
		}
	}
}

func TestDeepest(t *testing.T) {
	easy, hard, bare := bookB(), bookB(), bookB()
	easy.Least, hard.Least = 0, 30
	bare.Leak, bare.Men = one(0), nil
	// What is used in a minute is more than the bell holds where it is not deep.
	wasteful := bookB()
	wasteful.Lamps, wasteful.Cask, wasteful.Minutes, wasteful.Pumped, wasteful.Men = 30, 99, 1, one(1), nil
	for i, x := range []struct {
		b     api.BellBook
		plan  []int
		depth int
		found bool
	}{
		{bookB(), []int{1, 3}, 44, true}, {bookB(), []int{1}, 0, false}, {bookB(), nil, 0, false}, {easy, nil, 99, true}, {hard, nil, 0, false}, {bare, nil, 62, true}, {wasteful, []int{1}, 99, true}, {wasteful, nil, 0, false},
	} {
		if n, found, h := bell.Deepest(x.b, x.plan); n != x.depth || found != x.found || h != api.Smooth {
			t.Errorf("%d: %d, %v, %v", i, n, found, h)
		}
	}
	// Cases are those at the depth of the book: C has none of those of B that use the fewest measures.
	for _, plan := range [][]int{{1, 3}, {2, 4}} {
		n, _, _ := bell.Deepest(bookC(), plan)
		if m, _, _ := bell.Deepest(bookB(), plan); n != m {
			t.Errorf("%v: %d, and %d", plan, n, m)
		}
	}
	// Depth 0 alone can be good.
	shallow := api.BellBook{Room: 30, Least: 30, Minutes: 1, Pumped: one(1)}
	if n, found, h := bell.Deepest(shallow, nil); n != 0 || !found || h != api.Smooth {
		t.Errorf("%d, %v, %v", n, found, h)
	}
}

func TestCrew(t *testing.T) {
	hard := bookB()
	hard.Least = 30
	// bo breathes less than ann, and is taken in her place where one of them is too many.
	thirsty := bookB()
	thirsty.Men[0].Breath, thirsty.Men[1].Breath = one(9), one(2)
	alike := bookB()
	alike.Men = append(alike.Men, api.BellMan{Name: "cy", Breath: one(4)})
	for i, x := range []struct {
		b     api.BellBook
		plan  []int
		men   []int
		found bool
	}{
		{bookB(), []int{1, 3}, []int{0, 1}, true}, {bookB(), []int{1}, []int{0}, true}, {bookB(), nil, nil, true}, {hard, nil, nil, false}, {thirsty, []int{1}, []int{1}, true}, {alike, []int{1, 3}, []int{0, 1}, true}, {alike, []int{1}, []int{0}, true},
	} {
		if l, found, h := bell.Crew(x.b, x.plan); !slices.Equal(l, x.men) || found != x.found || h != api.Smooth {
			t.Errorf("%d: %v, %v, %v", i, l, found, h)
		}
	}
	// Cases are those with all men: if the bell leaks by 1 he who is alone breathes 3.
	marks := api.BellBook{Room: 30, Least: 25, Minutes: 1, Leak: reach(0, 1), Pumped: one(1), Men: []api.BellMan{{Name: "ann", Breath: reach(3, 4)}, {Name: "bo", Breath: reach(4, 5)}}}
	marks.Marks = []api.BellMark{{Minute: 1, Dry: one(22)}}
	if l, found, h := bell.Crew(marks, nil); !slices.Equal(l, []int{0}) || !found || h != api.Smooth {
		t.Errorf("%v, %v, %v", l, found, h)
	}
}

func TestClash(t *testing.T) {
	mark := func(minute, least, most int) api.BellMark {
		return api.BellMark{Minute: minute, Dry: reach(least, most)}
	}
	for i, x := range []struct {
		b    api.BellBook
		want []int
	}{
		{bookB(), nil}, {bookC(), nil}, {adriftBook(), []int{0, 1}},
		{marked(bookC(), mark(2, 30, 30), mark(1, 12, 12)), []int{1}},
		{marked(bookC(), mark(2, 7, 9), mark(1, 12, 12)), []int{0, 2}},
		{marked(bookB(), mark(1, 13, 13), mark(2, 99, 99)), []int{0}},
		{marked(bookB(), mark(1, 12, 12), mark(1, 11, 11), mark(1, 11, 11)), []int{0, 1}},
		{marked(bookB(), mark(3, 3, 3), mark(1, 12, 12), mark(2, 8, 8)), []int{0, 1}},
	} {
		if l, h := bell.Clash(x.b); !slices.Equal(l, x.want) || h != api.Smooth {
			t.Errorf("%d: %v, %v", i, l, h)
		}
	}
}

func TestClashAsReckonedOtherwise(t *testing.T) {
	clashed := map[int]int{}
	eachRandom(600, func(_ *rand.Rand, b api.BellBook) {
		var few []int
		for _, l := range model.Lists(len(b.Marks)) {
			if (few == nil || model.CompareLists(l, few) < 0) && len(modelCases(only(b, l))) == 0 {
				few = l
			}
		}
		clashed[len(few)]++
		if l, h := bell.Clash(b); !slices.Equal(l, few) || h != api.Smooth {
			t.Errorf("Clash(%v): %v, %v, want %v", b, l, h, few)
		}
	})
	if clashed[1] < 10 || clashed[2] < 10 {
		t.Errorf("so many books by how many marks clash: %v", clashed)
	}
}

func TestAsk(t *testing.T) {
	second, third, sure := bookB(), bookB(), bookB()
	second.Men[1].Breath = reach(4, 6)
	third.Men = append(third.Men, api.BellMan{Name: "cy", Breath: reach(1, 2)})
	sure.Men[0].Breath = one(3)
	alone := bookB()
	alone.Men = nil
	for i, x := range []struct {
		b         api.BellBook
		man, left int
	}{
		{bookB(), 0, 2}, {bookC(), 0, 2}, {second, 1, 4}, {third, 0, 4}, {sure, -1, 2}, {alone, -1, 2},
		{marked(bookB(), api.BellMark{Minute: 1, Dry: one(12)}), -1, 1},
	} {
		if man, left, h := bell.Ask(x.b); man != x.man || left != x.left || h != api.Smooth {
			t.Errorf("%d: %d, %d, %v", i, man, left, h)
		}
	}
}

func TestMark(t *testing.T) {
	m := func(minute, least, most int) api.BellMark {
		return api.BellMark{Minute: minute, Dry: reach(least, most)}
	}
	full := marked(bookC(), m(1, 11, 11), m(1, 11, 11))
	for i, x := range []struct {
		b    api.BellBook
		m    api.BellMark
		want api.Hitch
	}{
		{bookB(), m(1, 11, 11), api.Smooth}, {bookB(), m(5, 0, 99), api.Smooth}, {bookC(), m(1, 11, 12), api.Smooth}, {sent(bookB(), 2), m(1, 12, 12), api.Smooth}, {marked(bookB(), m(3, 0, 9)), m(1, 12, 12), api.Smooth},
		{bookB(), m(1, 13, 13), api.Adrift}, {bookC(), m(1, 12, 12), api.Adrift}, {adriftBook(), m(1, 0, 99), api.Adrift},
		{bookB(), m(0, 1, 0), api.Missing}, {bookB(), m(6, 1, 0), api.Missing}, {bookB(), m(math.MinInt, 0, 0), api.Missing}, {bookB(), m(1, 1, 0), api.Bounds}, {bookB(), m(1, 0, 100), api.Bounds}, {bookB(), m(1, -1, 0), api.Bounds}, {adriftBook(), m(1, 1, 0), api.Bounds},
		{full, m(0, 1, 0), api.Number}, {full, m(1, 11, 11), api.Number}, {api.BellBook{}, m(0, 1, 0), api.Bounds},
	} {
		o, h := bell.Mark(x.b, x.m)
		if h != x.want || h != api.Smooth && !isZero(o) {
			t.Errorf("%d: %v, %v", i, o, h)
		}
		if h == api.Smooth && !equal(o, marked(x.b, x.m)) {
			t.Errorf("%d: %v", i, o)
		}
	}
}

func TestBreathe(t *testing.T) {
	for i, x := range []struct {
		b    api.BellBook
		man  int
		x    api.Reach
		want api.Reach
		h    api.Hitch
	}{
		{bookB(), 0, one(4), one(4), api.Smooth}, {bookB(), 0, reach(1, 99), reach(3, 4), api.Smooth}, {bookB(), 0, reach(1, 3), one(3), api.Smooth}, {bookB(), 0, reach(4, 99), one(4), api.Smooth}, {bookB(), 1, reach(1, 99), one(4), api.Smooth},
		{bookB(), 0, one(2), one(0), api.Adrift}, {bookB(), 0, one(5), one(0), api.Adrift}, {bookB(), 1, one(3), one(0), api.Adrift},
		{bookB(), 0, reach(0, 4), one(0), api.Bounds}, {bookB(), 0, reach(4, 100), one(0), api.Bounds}, {bookB(), 0, reach(4, 3), one(0), api.Bounds}, {bookB(), 0, reach(math.MinInt, math.MaxInt), one(0), api.Bounds},
		{bookB(), 2, reach(4, 3), one(0), api.Missing}, {bookB(), -1, one(4), one(0), api.Missing}, {adriftBook(), 0, reach(4, 3), one(0), api.Bounds}, {adriftBook(), 0, one(4), one(0), api.Adrift}, {api.BellBook{}, 0, one(4), one(0), api.Bounds},
	} {
		o, h := bell.Breathe(x.b, x.man, x.x)
		if h != x.h || h != api.Smooth && !isZero(o) {
			t.Errorf("%d: %v, %v", i, o, h)
		}
		if h == api.Smooth {
			want := clone(x.b)
			want.Men[x.man].Breath = x.want
			if !equal(o, want) {
				t.Errorf("%d: %v", i, o)
			}
		}
	}
	// What is left of a breath can be what it is in no case.
	narrow := marked(bookB(), api.BellMark{Minute: 1, Dry: one(12)})
	if o, h := bell.Breathe(narrow, 0, one(4)); !isZero(o) || h != api.Adrift {
		t.Errorf("%v, %v", o, h)
	}
}

func TestCaulk(t *testing.T) {
	for i, x := range []struct {
		b    api.BellBook
		x    api.Reach
		want api.Reach
		h    api.Hitch
	}{
		{bookB(), one(0), one(0), api.Smooth}, {bookB(), reach(0, 99), reach(0, 1), api.Smooth}, {bookB(), reach(1, 9), one(1), api.Smooth}, {bookC(), one(0), one(0), api.Smooth},
		{bookB(), reach(2, 9), one(0), api.Adrift}, {bookB(), reach(-1, 9), one(0), api.Bounds}, {bookB(), reach(0, 100), one(0), api.Bounds}, {bookB(), reach(1, 0), one(0), api.Bounds}, {bookB(), reach(math.MinInt, math.MaxInt), one(0), api.Bounds},
		{adriftBook(), reach(1, 0), one(0), api.Bounds}, {adriftBook(), one(0), one(0), api.Adrift}, {api.BellBook{}, reach(1, 0), one(0), api.Bounds},
	} {
		o, h := bell.Caulk(x.b, x.x)
		if h != x.h || h != api.Smooth && !isZero(o) {
			t.Errorf("%d: %v, %v", i, o, h)
		}
		want := clone(x.b)
		want.Leak = x.want
		if h == api.Smooth && !equal(o, want) {
			t.Errorf("%d: %v", i, o)
		}
	}
	o, _ := bell.Caulk(bookC(), one(0))
	if l, h := bell.Breaths(o, 0); !slices.Equal(l, []int{4}) || h != api.Smooth {
		t.Errorf("Breaths of C, caulked: %v, %v", l, h)
	}
	// What is left of Leak can be what it is in no case.
	narrow := marked(bookB(), api.BellMark{Minute: 1, Dry: one(12)})
	if o, h := bell.Caulk(narrow, one(1)); !isZero(o) || h != api.Adrift {
		t.Errorf("%v, %v", o, h)
	}
}

func TestSend(t *testing.T) {
	late := marked(bookC(), api.BellMark{Minute: 3, Dry: reach(0, 99)}, api.BellMark{Minute: 2, Dry: reach(0, 99)})
	for i, x := range []struct {
		b      api.BellBook
		minute int
		want   []int
		h      api.Hitch
	}{
		{bookB(), 1, []int{1}, api.Smooth}, {bookB(), 5, []int{5}, api.Smooth}, {sent(bookB(), 2), 3, []int{2, 3}, api.Smooth}, {bookC(), 2, []int{2}, api.Smooth}, {late, 4, []int{4}, api.Smooth}, {adriftBook(), 2, []int{2}, api.Smooth},
		{bookC(), 1, nil, api.Crossed}, {late, 3, nil, api.Crossed}, {sent(bookB(), 2), 2, nil, api.Crossed}, {sent(bookB(), 2), 1, nil, api.Crossed}, {sent(bookB(), 1, 2), 2, nil, api.Crossed}, {sent(late, 4), 4, nil, api.Crossed}, {sent(late, 1), 3, nil, api.Crossed},
		{sent(bookB(), 1, 2), 3, nil, api.Lacking}, {bookB(), 0, nil, api.Missing}, {bookB(), 6, nil, api.Missing}, {sent(bookB(), 1, 2), 6, nil, api.Missing}, {api.BellBook{}, 0, nil, api.Bounds},
	} {
		o, h := bell.Send(x.b, x.minute)
		if h != x.h || h != api.Smooth && !isZero(o) {
			t.Errorf("%d: %v, %v", i, o, h)
		}
		if h == api.Smooth && !equal(o, sent(x.b, x.want...)) {
			t.Errorf("%d: %v", i, o)
		}
	}
	o, _ := bell.Send(bookB(), 2)
	if l, found, h := bell.Latest(o); !slices.Equal(l, []int{2, 4}) || !found || h != api.Smooth {
		t.Errorf("Latest of B, sent: %v, %v, %v", l, found, h)
	}
}

const (
	bellLine = "bell 30 33 9 5\n"
	bareB    = bellLine + "air 2 0:1 20 2 3 1:2 -\n"
	textB    = bareB + "man ann 3:4\nman bo 4\n"
	textC    = textB + "mark 1 11\n"
)

func TestPrint(t *testing.T) {
	big := api.BellBook{Room: 99, Least: 99, Minutes: 8, Lamps: 1, Cask: 99, Casks: 3, Leak: reach(97, 99), Pumped: reach(3, 8), Sent: []int{1, 7, 8}}
	big.Marks = []api.BellMark{{Minute: 8, Dry: reach(0, 99)}, {Minute: 1}}
	for want, b := range map[string]api.BellBook{
		textB: bookB(), textC: bookC(), textC + "mark 1 12\n": adriftBook(),
		"bell 99 0 99 8\nair 1 97:99 99 3 0 3:8 1,7,8\nmark 8 0:99\nmark 1 0\n": big,
		"bell 1 0 0 1\nair 0 0 0 0 0 1 -\n":                                     {Room: 1, Minutes: 1, Pumped: one(1)},
		"bell 30 33 9 5\nair 2 0:1 20 2 3 1:2 4\nman ann 3:4\nman bo 4\n":       sent(bookB(), 4),
	} {
		if s, h := bell.Print(b); s != want || h != api.Smooth {
			t.Errorf("%q, %v, want %q", s, h, want)
		}
		if o, n, h := bell.Parse(want); !equal(o, b) || n != 0 || h != api.Smooth {
			t.Errorf("%q: %v, %d, %v", want, o, n, h)
		}
	}
	if s, h := bell.Print(api.BellBook{}); s != "" || h != api.Bounds {
		t.Errorf("%q, %v", s, h)
	}
}

func TestParseWrongLines(t *testing.T) {
	air := func(fields string) string { return bellLine + "air " + fields + "\n" }
	for s, line := range map[string]int{
		"": 0, "\n": 1, "\n" + bareB: 1, bellLine: 0, strings.TrimSuffix(bellLine, "\n"): 0, "bell 0 0 0 0": 0, bellLine + "\n": 2, bellLine + "\n" + bareB: 2,
		"bell": 1, "bell 30 33 9": 1, "bell 30 33 9 5 1\n": 1, "bell 30  33 9 5\n": 1, " bell 30 33 9 5\n": 1, "bell 30 33 9 5 \n": 1, "bell x 33 9 5\n": 1, "bell 30 x 9 5\n": 1, "bell 30 33 x 5\n": 1, "bell 30 33 9 x\n": 1, "bell 030 33 9 5\n": 1, "bell 30:31 33 9 5\n": 1, "Bell 30 33 9 5\n": 1, "bell 30 33 9 5\r\n": 1, "bell 30 33 9 1234567890\n": 1,
		"air 2 0:1 20 2 3 1:2 -\n": 1, "man ann 3\n": 1, "mark 1 11\n": 1, "diver ann 3\n": 1, "air 2 0:1 20 2 3 1:2 -\n" + bellLine: 1,
		bellLine + bellLine: 2, bellLine + "man ann 3\n": 2, bellLine + "mark 1 11\n": 2, bellLine + "water 1\n": 2,
		air("2 0:1 20 2 3 1:2"): 2, air("2 0:1 20 2 3 1:2 - -"): 2, air("x 0:1 20 2 3 1:2 -"): 2, air("2 x 20 2 3 1:2 -"): 2, air("2 0:1 x 2 3 1:2 -"): 2, air("2 0:1 20 x 3 1:2 -"): 2, air("2 0:1 20 2 x 1:2 -"): 2, air("2 0:1 20 2 3 x -"): 2, air("2 0:1 20 2 3 1:2 x"): 2,
		air("2 0:0 20 2 3 1:2 -"): 2, air("2 0:1 20 2 3 1:1 -"): 2, air("2 0:1 20:21 2 3 1:2 -"): 2, air("2 0:1 20 2 3 1:2 1,"): 2, air("2 0:1 20 2 3 1:2 ,1"): 2, air("2 0:1 20 2 3 1:2 1,,2"): 2, air("2 0:1 20 2 3 1:2 1:2"): 2, air("2 0:1 20 2 3 1:2 1, 2"): 2, air("2 0:1 20 2 3 1:2 -,1"): 2, air("2 0:1 20 2 3 1:2 01"): 2, air("- 0:1 20 2 3 1:2 -"): 2,
		bareB + bellLine: 3, bareB + "air 2 0:1 20 2 3 1:2 -\n": 3, bareB + "\n": 3, bareB + "men ann 3\n": 3, bareB + "man\n": 3, bareB + "man ann\n": 3, bareB + "man ann 3 4\n": 3, bareB + "man ann x\n": 3, bareB + "man ann 3:3\n": 3, bareB + "man ann 3,4\n": 3, bareB + "man  3\n": 3,
		bareB + "mark\n": 3, bareB + "mark 1\n": 3, bareB + "mark 1 11 12\n": 3, bareB + "mark x 11\n": 3, bareB + "mark 1:2 11\n": 3, bareB + "mark 1 x\n": 3, bareB + "mark 1 11:11\n": 3, bareB + "mark 1 -0\n": 3, bareB + "marks 1 11\n": 3,
		bareB + "mark 1 11\nman ann 3\n": 4, bareB + "mark 1 11\n" + bellLine: 4, bareB + "man Ann 0\nair 2 0:1 20 2 3 1:2 -\n": 4, textC + "man cy 3\n": 6, textC + "\n": 6, "bell 0 0 0 0\nair 0 0 0 0 0 0 9,9\nman 9 0\nmark\n": 4, strings.Repeat("\n", api.MaxText): 1,
	} {
		if b, n, h := bell.Parse(s); !isZero(b) || n != line || h != api.Shape {
			t.Errorf("%.80q: %v, %d, %v, want line %d", s, b, n, h, line)
		}
	}
}

func TestParseHitches(t *testing.T) {
	air := func(fields string) string { return bellLine + "air " + fields }
	for s, want := range map[string]api.Hitch{
		"bell 0 33 9 5\nair 2 0:1 20 2 3 1:2 -":     api.Bounds,
		"bell 30 100 9 5\nair 2 0:1 20 2 3 1:2 -":   api.Bounds,
		"bell 30 33 -1 5\nair 2 0:1 20 2 3 1:2 -":   api.Bounds,
		"bell 30 33 9 9\nair 2 0:1 20 2 3 1:2 -":    api.Bounds,
		"bell 30 33 9 999999999\nair 2 0 2 2 3 1 -": api.Bounds,
		air("-2 0:1 20 2 3 1:2 -"):                  api.Bounds,
		air("2 1:0 20 2 3 1:2 -"):                   api.Bounds,
		air("2 0:3 20 2 3 1:2 -"):                   api.Bounds,
		air("2 0:1 100 2 3 1:2 -"):                  api.Bounds,
		air("2 0:1 20 4 3 1:2 -"):                   api.Bounds,
		air("2 0:1 20 2 -3 1:2 -"):                  api.Bounds,
		air("2 0:1 20 2 3 0:2 -"):                   api.Bounds,
		air("2 0:1 20 2 3 1:2 0"):                   api.Missing,
		air("2 0:1 20 2 3 1:2 -1"):                  api.Missing,
		air("2 0:1 20 2 3 1:2 2,1"):                 api.Crossed,
		air("2 0:1 20 2 3 1:2 1,2,3"):               api.Lacking,
		bareB + "man Ann 3\n":                       api.Label,
		bareB + "man \xff 3\n":                      api.Label,
		bareB + "man ann 3\nman ann 4\n":            api.Double,
		bareB + "man ann 0\n":                       api.Bounds,
		bareB + "man ann 4:3\n":                     api.Bounds,
		bareB + strings.Repeat("man ann 3\n", 3900): api.Number,
		bareB + strings.Repeat("mark 1 11\n", 4):    api.Number,
		bareB + "mark 6 11\n":                       api.Missing,
		bareB + "mark 1 100\n":                      api.Bounds,
		bareB + "mark 1 12:11\n":                    api.Bounds,
		strings.Repeat("b", api.MaxText+1):          api.Number,
		strings.Repeat(textC, api.MaxText):          api.Number,
	} {
		if b, n, h := bell.Parse(s); !isZero(b) || n != 0 || h != want {
			t.Errorf("%.80q: %v, %d, %v", s, b, n, h)
		}
	}
	// A book without a case is read.
	if b, n, h := bell.Parse(textC + "mark 1 12"); !equal(b, adriftBook()) || n != 0 || h != api.Smooth {
		t.Errorf("%v, %d, %v", b, n, h)
	}
	// A text as long as the limit is read: its first line is wrong.
	if b, n, h := bell.Parse(strings.Repeat("b", api.MaxText)); !isZero(b) || n != 1 || h != api.Shape {
		t.Errorf("%v, %d, %v", b, n, h)
	}
}
