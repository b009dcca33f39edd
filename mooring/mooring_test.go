package mooring_test

import (
	"math"
	"math/rand"
	"slices"
	"strings"
	"testing"

	"lagan/api"
	"lagan/model"
	"lagan/mooring"
)

// Tests of P8.1 to P8.5: what each function returns.

const (
	mud    = api.MooringMud
	sand   = api.MooringSand
	rock   = api.MooringRock
	unsure = api.Unsure
	surely = api.Surely
	never  = api.Never
)

func TestCheckBook(t *testing.T) {
	for name, x := range map[string]struct {
		change func(b *api.MooringBook)
		want   api.Hitch
	}{
		"A":                            {func(b *api.MooringBook) {}, api.Smooth},
		"no depth":                     {func(b *api.MooringBook) { b.Depth = 0 }, api.Bounds},
		"least depth":                  {func(b *api.MooringBook) { b.Depth = 1 }, api.Smooth},
		"greatest depth":               {func(b *api.MooringBook) { b.Depth = 30 }, api.Smooth},
		"depth above":                  {func(b *api.MooringBook) { b.Depth = 31 }, api.Bounds},
		"any depth":                    {func(b *api.MooringBook) { b.Depth = math.MinInt }, api.Bounds},
		"no anchors":                   {func(b *api.MooringBook) { b.Anchors = nil }, api.Number},
		"one anchor":                   {func(b *api.MooringBook) { b.Anchors = b.Anchors[:1] }, api.Smooth},
		"four anchors":                 {func(b *api.MooringBook) { b.Anchors = append(b.Anchors, b.Anchors[0]) }, api.Smooth},
		"five anchors":                 {func(b *api.MooringBook) { b.Anchors = slices.Repeat(b.Anchors[:1], 5) }, api.Number},
		"far east":                     {func(b *api.MooringBook) { b.Anchors[1].At = at(5, 0) }, api.Smooth},
		"too far east":                 {func(b *api.MooringBook) { b.Anchors[1].At = at(6, 0) }, api.Bounds},
		"far west":                     {func(b *api.MooringBook) { b.Anchors[1].At = at(-5, 0) }, api.Smooth},
		"too far west":                 {func(b *api.MooringBook) { b.Anchors[1].At = at(-6, 0) }, api.Bounds},
		"far north":                    {func(b *api.MooringBook) { b.Anchors[1].At = at(0, 5) }, api.Smooth},
		"too far north":                {func(b *api.MooringBook) { b.Anchors[1].At = at(0, 6) }, api.Bounds},
		"far south":                    {func(b *api.MooringBook) { b.Anchors[1].At = at(0, -5) }, api.Smooth},
		"too far south":                {func(b *api.MooringBook) { b.Anchors[1].At = at(0, -6) }, api.Bounds},
		"anywhere":                     {func(b *api.MooringBook) { b.Anchors[2].At = at(math.MaxInt, math.MinInt) }, api.Bounds},
		"below the lighter":            {func(b *api.MooringBook) { b.Anchors[1].At = at(0, 0) }, api.Crossed},
		"two at a place":               {func(b *api.MooringBook) { b.Anchors[1].At = b.Anchors[0].At }, api.Smooth},
		"ground above":                 {func(b *api.MooringBook) { b.Anchors[1].Ground = 3 }, api.Missing},
		"ground below":                 {func(b *api.MooringBook) { b.Anchors[1].Ground = -1 }, api.Missing},
		"any ground":                   {func(b *api.MooringBook) { b.Anchors[1].Ground = math.MaxInt }, api.Missing},
		"no strength":                  {func(b *api.MooringBook) { b.Anchors[1].Strength = 0 }, api.Bounds},
		"least strength":               {func(b *api.MooringBook) { b.Anchors[1].Strength = 1 }, api.Smooth},
		"greatest strength":            {func(b *api.MooringBook) { b.Anchors[1].Strength = 99 }, api.Smooth},
		"strength above":               {func(b *api.MooringBook) { b.Anchors[1].Strength = 100 }, api.Bounds},
		"any strength":                 {func(b *api.MooringBook) { b.Anchors[1].Strength = math.MinInt }, api.Bounds},
		"no length":                    {func(b *api.MooringBook) { b.Anchors[1].Length = 0 }, api.Bounds},
		"least length":                 {func(b *api.MooringBook) { b.Anchors[1].Length = 1 }, api.Smooth},
		"greatest length":              {func(b *api.MooringBook) { b.Anchors[1].Length = 99 }, api.Smooth},
		"length above":                 {func(b *api.MooringBook) { b.Anchors[1].Length = 100 }, api.Bounds},
		"no grounds":                   {func(b *api.MooringBook) { b.Grounds = nil }, api.Number},
		"two grounds":                  {func(b *api.MooringBook) { b.Grounds = b.Grounds[:2] }, api.Number},
		"four grounds":                 {func(b *api.MooringBook) { b.Grounds = append(b.Grounds, one(1)) }, api.Number},
		"ground holds nothing":         {func(b *api.MooringBook) { b.Grounds[1] = one(0) }, api.Smooth},
		"ground holds least":           {func(b *api.MooringBook) { b.Grounds[1] = reach(0, 2) }, api.Smooth},
		"ground holds most":            {func(b *api.MooringBook) { b.Grounds[1] = reach(97, 99) }, api.Smooth},
		"ground holds less":            {func(b *api.MooringBook) { b.Grounds[1] = reach(-1, 0) }, api.Bounds},
		"ground holds more":            {func(b *api.MooringBook) { b.Grounds[1] = reach(99, 100) }, api.Bounds},
		"ground turned":                {func(b *api.MooringBook) { b.Grounds[1] = reach(24, 23) }, api.Bounds},
		"ground of four numbers":       {func(b *api.MooringBook) { b.Grounds[1] = reach(24, 27) }, api.Bounds},
		"ground of any numbers":        {func(b *api.MooringBook) { b.Grounds[1] = reach(math.MaxInt, math.MinInt) }, api.Bounds},
		"no winds":                     {func(b *api.MooringBook) { b.Winds = nil }, api.Number},
		"one wind":                     {func(b *api.MooringBook) { b.Winds = b.Winds[:1] }, api.Smooth},
		"three winds":                  {func(b *api.MooringBook) { b.Winds = append(b.Winds, wind(7, one(1))) }, api.Smooth},
		"four winds":                   {func(b *api.MooringBook) { b.Winds = slices.Repeat(b.Winds, 2) }, api.Number},
		"two winds of a side":          {func(b *api.MooringBook) { b.Winds[1].Side = 0 }, api.Smooth},
		"last side":                    {func(b *api.MooringBook) { b.Winds[1].Side = 7 }, api.Smooth},
		"side above":                   {func(b *api.MooringBook) { b.Winds[1].Side = 8 }, api.Missing},
		"side below":                   {func(b *api.MooringBook) { b.Winds[1].Side = -1 }, api.Missing},
		"any side":                     {func(b *api.MooringBook) { b.Winds[1].Side = math.MinInt }, api.Missing},
		"no wind":                      {func(b *api.MooringBook) { b.Winds[1].Strength = reach(0, 1) }, api.Bounds},
		"weakest wind":                 {func(b *api.MooringBook) { b.Winds[1].Strength = reach(1, 3) }, api.Smooth},
		"strongest wind":               {func(b *api.MooringBook) { b.Winds[1].Strength = reach(197, 199) }, api.Smooth},
		"wind above":                   {func(b *api.MooringBook) { b.Winds[1].Strength = reach(199, 200) }, api.Bounds},
		"wind turned":                  {func(b *api.MooringBook) { b.Winds[1].Strength = reach(30, 29) }, api.Bounds},
		"wind of four numbers":         {func(b *api.MooringBook) { b.Winds[1].Strength = reach(30, 33) }, api.Bounds},
		"wind of any numbers":          {func(b *api.MooringBook) { b.Winds[1].Strength = reach(math.MinInt, math.MaxInt) }, api.Bounds},
		"four nights":                  {func(b *api.MooringBook) { b.Nights = slices.Repeat(b.Nights, 4) }, api.Smooth},
		"five nights":                  {func(b *api.MooringBook) { b.Nights = slices.Repeat(b.Nights, 5) }, api.Number},
		"a wind that is not there":     {func(b *api.MooringBook) { b.Nights[0].Wind = 2 }, api.Missing},
		"a wind below":                 {func(b *api.MooringBook) { b.Nights[0].Wind = -1 }, api.Missing},
		"any wind":                     {func(b *api.MooringBook) { b.Nights[0].Wind = math.MaxInt }, api.Missing},
		"no case":                      {func(b *api.MooringBook) { b.Nights = append(b.Nights, dragged(1)) }, api.Smooth},
		"depth, then anchors":          {func(b *api.MooringBook) { b.Depth, b.Anchors = 0, nil }, api.Bounds},
		"many anchors, then what":      {func(b *api.MooringBook) { b.Anchors = make([]api.MooringAnchor, 5) }, api.Number},
		"far, then below her":          {func(b *api.MooringBook) { b.Anchors[0].At, b.Anchors[1].At = at(6, 0), at(0, 0) }, api.Bounds},
		"below her, then far":          {func(b *api.MooringBook) { b.Anchors[0].At, b.Anchors[1].At = at(0, 0), at(6, 0) }, api.Crossed},
		"far, then ground":             {func(b *api.MooringBook) { b.Anchors[0].At, b.Anchors[0].Ground = at(6, 0), 3 }, api.Bounds},
		"below her, then ground":       {func(b *api.MooringBook) { b.Anchors[0] = anchor(0, 0, 3, 0, 0) }, api.Crossed},
		"ground, then cable":           {func(b *api.MooringBook) { b.Anchors[0] = anchor(1, 1, 3, 0, 0) }, api.Missing},
		"cable, then the next one":     {func(b *api.MooringBook) { b.Anchors[0].Length, b.Anchors[1].Ground = 0, 3 }, api.Bounds},
		"anchors, then grounds":        {func(b *api.MooringBook) { b.Anchors[2].Ground, b.Grounds = 3, nil }, api.Missing},
		"many grounds, then what":      {func(b *api.MooringBook) { b.Grounds = []api.Reach{one(-1), one(-1)} }, api.Number},
		"grounds, then winds":          {func(b *api.MooringBook) { b.Grounds[2], b.Winds = one(100), nil }, api.Bounds},
		"many winds, then what":        {func(b *api.MooringBook) { b.Winds = make([]api.MooringWind, 4) }, api.Number},
		"side, then strength":          {func(b *api.MooringBook) { b.Winds[0] = wind(8, one(0)) }, api.Missing},
		"strength, then next side":     {func(b *api.MooringBook) { b.Winds[0].Strength, b.Winds[1].Side = one(0), 8 }, api.Bounds},
		"winds, then nights":           {func(b *api.MooringBook) { b.Winds[1].Side, b.Nights = 8, slices.Repeat(b.Nights, 5) }, api.Missing},
		"many nights, then their wind": {func(b *api.MooringBook) { b.Nights = slices.Repeat([]api.MooringNight{rode(9)}, 5) }, api.Number},
	} {
		b := spent(bookA(), rode(0))
		x.change(&b)
		if h := mooring.CheckBook(b); h != x.want {
			t.Errorf("%s: %v, want %v", name, h, x.want)
		}
	}
}

func TestWindward(t *testing.T) {
	b := bookA()
	for anchor, far := range [][]int{{2, 4, 2, 0, -2, -4, -2, 0}, {2, -2, -4, -6, -2, 2, 4, 6}, {-3, -3, 0, 3, 3, 3, 0, -3}} {
		for side, want := range far {
			if n, h := mooring.Windward(b, anchor, side); n != want || h != api.Smooth {
				t.Errorf("%d, %d: %d, %v", anchor, side, n, h)
			}
		}
	}
	for _, p := range places() {
		for side := range 8 {
			if n, h := mooring.Windward(moved(b, 1, p), 1, side); n != modelWindward(p, side) || h != api.Smooth {
				t.Errorf("%v, %d: %d, %v", p, side, n, h)
			}
		}
	}
}

func TestHold(t *testing.T) {
	roped := func(strength, length int) api.MooringBook {
		b := bookA()
		b.Anchors[1].Strength, b.Anchors[1].Length = strength, length
		return b
	}
	for i, x := range []struct {
		b            api.MooringBook
		c            api.MooringCase
		anchor, want int
	}{
		{bookA(), caseC(), 0, 24}, {bookA(), caseC(), 1, 15}, {bookA(), caseC(), 2, 30}, {adriftBook(), caseC(), 2, 30},
		// Half of it, rounded down, by a cable that is shorter than 15; no more than the cable bears.
		{bookA(), mooringCase([]int{30, 24, 40}, 32, 30), 1, 15}, {bookA(), mooringCase([]int{29, 24, 40}, 32, 30), 1, 14}, {bookA(), mooringCase([]int{1, 0, 40}, 32, 30), 1, 0}, {bookA(), mooringCase([]int{1, 0, 40}, 32, 30), 0, 0},
		{roped(25, 14), caseC(), 1, 15}, {roped(25, 15), caseC(), 1, 25}, {roped(31, 15), caseC(), 1, 31}, {roped(99, 99), caseC(), 1, 31}, {roped(14, 14), caseC(), 1, 14}, {roped(15, 14), caseC(), 1, 15}, {roped(1, 1), caseC(), 1, 1},
		// Whether it is a case or not.
		{bookA(), mooringCase([]int{99, 99, 99}, 1, 199), 0, 40}, {bookA(), mooringCase([]int{99, 99, 99}, 1, 199), 1, 25}, {bookA(), mooringCase([]int{0, 0, 0}, 1, 199), 2, 0}, {widest(), mooringCase([]int{99, 98, 97}, 1, 1, 1), 2, 97}, {widest(), mooringCase([]int{99, 98, 97}, 1, 1, 1), 3, 99},
	} {
		want := modelHold(x.b, x.c, x.anchor)
		if n, h := mooring.Hold(x.b, x.c, x.anchor); n != x.want || n != want || h != api.Smooth {
			t.Errorf("%d: %d, %v", i, n, h)
		}
	}
}

func TestPulls(t *testing.T) {
	uneven := blown(moved(bookA(), 0, at(1, 4)), wind(3, one(9)), wind(7, one(10)))
	for i, x := range []struct {
		b         api.MooringBook
		strengths []int
		wind      int
		want      []int
	}{
		{bookA(), []int{32, 30}, 0, []int{16, 16, 0}}, {bookA(), []int{32, 30}, 1, []int{0, 0, 30}}, {bookA(), []int{31, 30}, 0, []int{16, 16, 0}}, {bookA(), []int{30, 30}, 0, []int{15, 15, 0}}, {bookA(), []int{1, 30}, 0, []int{1, 1, 0}}, {bookA(), []int{199, 1}, 0, []int{100, 100, 0}}, {bookA(), []int{199, 1}, 1, []int{0, 0, 1}}, {adriftBook(), []int{5, 6}, 0, []int{3, 3, 0}},
		{lone(), []int{32, 30}, 0, []int{0}}, {lone(), []int{32, 30}, 1, []int{30}}, {uneven, []int{9, 10}, 0, []int{0, 0, 9}}, {uneven, []int{9, 10}, 1, []int{4, 7, 0}}, {uneven, []int{9, 9}, 1, []int{3, 6, 0}}, {widest(), []int{199, 199, 199}, 0, []int{100, 0, 0, 100}}, {widest(), []int{199, 198, 197}, 1, []int{0, 198, 0, 0}}, {widest(), []int{1, 1, 2}, 2, []int{0, 0, 0, 2}},
	} {
		c := mooringCase([]int{31, 24, 40}, x.strengths...)
		if l, h := mooring.Pulls(x.b, c, x.wind); !slices.Equal(l, x.want) || h != api.Smooth {
			t.Errorf("%d: %v, %v", i, l, h)
		}
	}
	eachRandom(200, func(r *rand.Rand, b api.MooringBook) {
		all := modelAll(b, 1)
		c := all[r.Intn(len(all))]
		for wind, w := range b.Winds {
			want := modelPulls(b, w.Side, c.Strengths[wind])
			if l, h := mooring.Pulls(b, c, wind); !slices.Equal(l, want) || h != api.Smooth {
				t.Errorf("Pulls(%v, %v, %d): %v, %v, want %v", b, c, wind, l, h, want)
			}
		}
		for anchor := range b.Anchors {
			if n, h := mooring.Hold(b, c, anchor); n != modelHold(b, c, anchor) || h != api.Smooth {
				t.Errorf("Hold(%v, %v, %d): %d, %v", b, c, anchor, n, h)
			}
		}
	})
}

func TestIsCase(t *testing.T) {
	least := []int{30, 24, 40}
	for i, x := range []struct {
		b    api.MooringBook
		c    api.MooringCase
		want bool
	}{
		{bookA(), caseC(), true}, {bookA(), mooringCase(least, 30, 30), true}, {bookA(), mooringCase(least, 31, 30), true}, {bookA(), mooringCase(least, 29, 30), false}, {bookA(), mooringCase(least, 33, 30), false}, {bookA(), mooringCase(least, 30, 29), false}, {bookA(), mooringCase(least, 30, 31), false}, {bookA(), mooringCase([]int{29, 24, 40}, 30, 30), false}, {bookA(), mooringCase([]int{32, 24, 40}, 30, 30), false}, {bookA(), mooringCase([]int{30, 25, 40}, 30, 30), false}, {bookA(), mooringCase([]int{30, 24, 39}, 30, 30), false}, {bookA(), mooringCase([]int{40, 24, 30}, 30, 30), false},
		{spent(bookA(), rode(0)), mooringCase(least, 30, 30), true}, {spent(bookA(), rode(0)), mooringCase(least, 31, 30), false}, {spent(bookA(), rode(0)), caseC(), false}, {spent(bookA(), dragged(0)), caseC(), true}, {spent(bookA(), dragged(0)), mooringCase(least, 30, 30), false}, {spent(bookA(), rode(0), rode(1)), mooringCase(least, 30, 30), true}, {spent(bookA(), dragged(1)), mooringCase(least, 30, 30), false}, {adriftBook(), mooringCase(least, 30, 30), false}, {adriftBook(), caseC(), false},
		// She does not ride if no anchor bears.
		{spent(lone(), rode(0)), caseC(), false}, {spent(lone(), dragged(0)), caseC(), true}, {spent(lone(), rode(1)), caseC(), true}, {bookA(), mooringCase([]int{0, 0, 0}, 1, 1), false}, {bookA(), mooringCase([]int{99, 99, 99}, 199, 199), false}, {widest(), mooringCase([]int{97, 98, 99}, 199, 198, 197), true},
	} {
		if is, h := mooring.IsCase(x.b, x.c); is != x.want || h != api.Smooth {
			t.Errorf("%d: %v, %v", i, is, h)
		}
	}
	is, not := 0, 0
	eachRandom(300, func(r *rand.Rand, b api.MooringBook) {
		all, cases := modelAll(b, 1), modelCases(b)
		for range 20 {
			c := all[r.Intn(len(all))]
			if len(cases) > 0 && r.Intn(2) == 0 {
				c = cases[r.Intn(len(cases))]
			}
			want := modelIs(b, c)
			if x, h := mooring.IsCase(b, c); x != want || h != api.Smooth {
				t.Fatalf("IsCase(%v, %v): %v, %v", b, c, x, h)
			}
			if want {
				is++
			} else {
				not++
			}
		}
	})
	if is < 1000 || not < 1000 {
		t.Errorf("%d cases, %d others", is, not)
	}
}

func TestCaseHitches(t *testing.T) {
	three := []int{31, 24, 40}
	for i, x := range []struct {
		b    api.MooringBook
		c    api.MooringCase
		want api.Hitch
	}{
		{bookA(), mooringCase(nil), api.Number}, {bookA(), mooringCase([]int{31, 24}, 32, 30), api.Number}, {bookA(), mooringCase([]int{31, 24, 40, 40}, 32, 30), api.Number}, {bookA(), mooringCase(three), api.Number}, {bookA(), mooringCase(three, 32), api.Number}, {bookA(), mooringCase(three, 32, 30, 30), api.Number}, {adriftBook(), mooringCase(nil), api.Number}, {bookA(), mooringCase([]int{-1}, 0), api.Number}, {bookA(), mooringCase([]int{-1, 24, 40}, 32), api.Number}, {bookA(), mooringCase([]int{100}, 32, 30), api.Number},
		{bookA(), mooringCase([]int{-1, 24, 40}, 32, 30), api.Bounds}, {bookA(), mooringCase([]int{31, 24, 100}, 32, 30), api.Bounds}, {bookA(), mooringCase([]int{31, math.MinInt, 40}, 32, 30), api.Bounds}, {bookA(), mooringCase(three, 0, 30), api.Bounds}, {bookA(), mooringCase(three, 32, 200), api.Bounds}, {bookA(), mooringCase(three, math.MaxInt, 30), api.Bounds}, {adriftBook(), mooringCase(three, 32, -1), api.Bounds},
		{api.MooringBook{}, mooringCase(nil), api.Bounds}, {held(bookA(), 0, one(100)), mooringCase(nil), api.Bounds}, {blown(bookA()), mooringCase([]int{100, 1, 1}), api.Number},
	} {
		// The case comes before an anchor and a wind that are asked about.
		for _, n := range []int{0, 9} {
			if holds, h := mooring.Hold(x.b, x.c, n); holds != 0 || h != x.want {
				t.Errorf("%d: Hold: %d, %v", i, holds, h)
			}
			if l, h := mooring.Pulls(x.b, x.c, n); l != nil || h != x.want {
				t.Errorf("%d: Pulls: %v, %v", i, l, h)
			}
		}
		if is, h := mooring.IsCase(x.b, x.c); is || h != x.want {
			t.Errorf("%d: IsCase: %v, %v", i, is, h)
		}
	}
	for i, c := range []api.MooringCase{mooringCase([]int{0, 0, 0}, 1, 1), mooringCase([]int{99, 99, 99}, 199, 199)} {
		if is, h := mooring.IsCase(bookA(), c); is || h != api.Smooth {
			t.Errorf("%d: %v, %v", i, is, h)
		}
	}
}

func TestOpen(t *testing.T) {
	for i, x := range []struct {
		b    api.MooringBook
		want []int
	}{
		{bookA(), nil}, {lone(), []int{0, 1, 2, 6, 7}}, {adriftBook(), nil}, {widest(), nil}, {anchored(bookA(), anchor(5, 1, mud, 1, 1)), []int{4, 5, 6, 7}}, {anchored(bookA(), anchor(-1, 1, mud, 1, 1)), []int{1, 2, 3, 4, 5}}, {anchored(bookA(), anchor(0, 1, mud, 1, 1), anchor(0, -1, mud, 1, 1)), []int{2, 6}}, {anchored(bookA(), anchor(1, 1, mud, 1, 1), anchor(-1, -1, mud, 1, 1)), []int{3, 7}}, {anchored(bookA(), anchor(1, 0, mud, 1, 1), anchor(1, 1, mud, 1, 1)), []int{4, 5, 6, 7}}, {spent(lone(), rode(0)), []int{0, 1, 2, 6, 7}},
	} {
		if l, h := mooring.Open(x.b); !slices.Equal(l, x.want) || h != api.Smooth {
			t.Errorf("%d: %v, %v", i, l, h)
		}
	}
	eachRandom(200, func(_ *rand.Rand, b api.MooringBook) {
		if l, h := mooring.Open(b); !slices.Equal(l, modelOpen(b)) || h != api.Smooth {
			t.Errorf("Open(%v): %v, %v", b, l, h)
		}
	})
}

func TestCasesOfA(t *testing.T) {
	for i, x := range []struct {
		b                  api.MooringBook
		many               int
		mud, north         []int
		rides, south, safe api.Known
	}{
		{bookA(), 6, []int{30, 31}, []int{30, 31, 32}, unsure, surely, unsure}, {spent(bookA(), rode(0)), 2, []int{30, 31}, []int{30}, surely, surely, surely}, {spent(bookA(), dragged(0)), 4, []int{30, 31}, []int{31, 32}, never, surely, never}, {lone(), 6, []int{30, 31}, []int{30, 31, 32}, never, surely, never}, {gauged(bookA(), 0, one(30)), 2, []int{30, 31}, []int{30}, surely, surely, surely}, {gauged(bookA(), 1, reach(30, 31)), 12, []int{30, 31}, []int{30, 31, 32}, unsure, unsure, unsure}, {gauged(bookA(), 1, one(31)), 6, []int{30, 31}, []int{30, 31, 32}, unsure, never, never},
		// What the mud holds matters as it is halved: 15 of 31, 16 of 32.
		{held(bookA(), 0, reach(31, 33)), 9, []int{31, 32, 33}, []int{30, 31, 32}, unsure, surely, unsure}, {spent(held(bookA(), 0, reach(31, 33)), rode(0)), 7, []int{31, 32, 33}, []int{30, 31, 32}, surely, surely, surely}, {spent(held(bookA(), 0, reach(31, 33)), dragged(0)), 2, []int{31}, []int{31, 32}, never, surely, never}, {spent(gauged(held(bookA(), 0, reach(31, 33)), 0, one(32)), rode(0)), 2, []int{32, 33}, []int{32}, surely, surely, surely},
		// She rode in one of two winds that are as strong.
		{spent(blown(lone(), wind(3, reach(30, 31)), wind(4, reach(30, 31))), rode(1)), 4, []int{30, 31}, []int{30, 31}, unsure, surely, unsure},
	} {
		if n := mustCases(t, x.b); n != x.many {
			t.Errorf("%d: Cases: %d", i, n)
		}
		if l, h := mooring.Grounds(x.b, mud); !slices.Equal(l, x.mud) || h != api.Smooth {
			t.Errorf("%d: Grounds: %v, %v", i, l, h)
		}
		if l, h := mooring.Strengths(x.b, 0); !slices.Equal(l, x.north) || h != api.Smooth {
			t.Errorf("%d: Strengths: %v, %v", i, l, h)
		}
		for wind, want := range []api.Known{x.rides, x.south} {
			if u, h := mooring.Rides(x.b, wind); u != want || h != api.Smooth {
				t.Errorf("%d: Rides %d: %v, %v", i, wind, u, h)
			}
		}
		if u, h := mooring.Safe(x.b); u != x.safe || h != api.Smooth {
			t.Errorf("%d: Safe: %v, %v", i, u, h)
		}
	}
	if l, h := mooring.Grounds(bookA(), rock); !slices.Equal(l, []int{40}) || h != api.Smooth {
		t.Errorf("%v, %v", l, h)
	}
	if l, h := mooring.Strengths(bookA(), 1); !slices.Equal(l, []int{30}) || h != api.Smooth {
		t.Errorf("%v, %v", l, h)
	}
}

func TestSafe(t *testing.T) {
	for i, x := range []struct {
		b     api.MooringBook
		rides []api.Known
		safe  api.Known
	}{
		{both(), []api.Known{unsure, unsure, unsure}, unsure}, {spent(both(), rode(0)), []api.Known{surely, unsure, unsure}, unsure}, {spent(both(), rode(0), rode(1)), []api.Known{surely, surely, surely}, surely}, {spent(both(), rode(2)), []api.Known{surely, surely, surely}, surely}, {spent(both(), dragged(2)), []api.Known{unsure, unsure, never}, never}, {spent(both(), dragged(1)), []api.Known{unsure, never, never}, never}, {gauged(both(), 2, one(18)), []api.Known{unsure, unsure, surely}, unsure},
	} {
		for wind, want := range x.rides {
			if u, h := mooring.Rides(x.b, wind); u != want || h != api.Smooth {
				t.Errorf("%d: Rides %d: %v, %v", i, wind, u, h)
			}
		}
		if u, h := mooring.Safe(x.b); u != x.safe || h != api.Smooth {
			t.Errorf("%d: Safe: %v, %v", i, u, h)
		}
	}
}

func TestAtTheLimits(t *testing.T) {
	b := widest()
	if n := mustCases(t, b); n != 729 {
		t.Errorf("Cases: %d", n)
	}
	// Each of the two to the north has 99 or 100 of it, those to the other sides have all of it.
	for wind, want := range []api.Known{unsure, never, never} {
		if u, h := mooring.Rides(b, wind); u != want || h != api.Smooth {
			t.Errorf("Rides %d: %v, %v", wind, u, h)
		}
	}
	if anchor, spare, found, h := mooring.First(b, 1); anchor != 1 || spare != 97-199 || !found || h != api.Smooth {
		t.Errorf("First: %d, %d, %v, %v", anchor, spare, found, h)
	}
	if kind, left, h := mooring.Ask(b); kind != 0 || left != 243 || h != api.Smooth {
		t.Errorf("Ask: %d, %d, %v", kind, left, h)
	}
	if anchor, to, found, h := mooring.Shift(b); anchor != -1 || to != at(0, 0) || found || h != api.Smooth {
		t.Errorf("Shift: %d, %v, %v, %v", anchor, to, found, h)
	}
	full := spent(b, dragged(0), dragged(1), dragged(2), rode(0))
	if l, h := mooring.Clash(full); !slices.Equal(l, []int{0, 3}) || h != api.Smooth {
		t.Errorf("Clash: %v, %v", l, h)
	}
	weak := api.MooringBook{Depth: 30, Anchors: []api.MooringAnchor{anchor(0, 1, mud, 1, 1)}, Grounds: []api.Reach{one(0), one(0), one(0)}, Winds: []api.MooringWind{wind(0, one(1))}}
	if u, h := mooring.Safe(weak); u != never || h != api.Smooth {
		t.Errorf("Safe: %v, %v", u, h)
	}
	if anchor, spare, found, h := mooring.First(weak, 0); anchor != 0 || spare != -1 || !found || h != api.Smooth {
		t.Errorf("First: %d, %d, %v, %v", anchor, spare, found, h)
	}
}

func TestFirst(t *testing.T) {
	three := blown(bookA(), wind(3, one(9)), wind(6, reach(50, 52)), wind(1, one(20)))
	for i, x := range []struct {
		b                   api.MooringBook
		wind, anchor, spare int
	}{
		{bookA(), 0, 1, -1}, {bookA(), 1, 2, 0}, {spent(bookA(), rode(0)), 0, 1, 0}, {spent(bookA(), dragged(0)), 0, 1, -1}, {held(bookA(), 0, reach(29, 31)), 0, 1, -2}, {gauged(bookA(), 0, one(20)), 0, 1, 5}, {gauged(bookA(), 1, reach(38, 40)), 1, 2, -10}, {gauged(bookA(), 1, one(1)), 1, 2, 29}, {held(bookA(), 1, one(15)), 0, 0, -1}, {held(bookA(), 1, reach(14, 15)), 0, 0, -2}, {held(bookA(), 1, one(16)), 0, 1, -1},
		{three, 0, 2, 21}, {three, 1, 1, 15 - 52}, {three, 2, 0, 4},
		// The first one of several.
		{anchored(bookA(), bookA().Anchors[2], bookA().Anchors[2]), 1, 0, 15}, {held(bookA(), 1, one(15)), 1, 2, 0}, {anchored(bookA(), bookA().Anchors[0], bookA().Anchors[2], bookA().Anchors[2]), 1, 1, 15},
		// What an anchor holds at least, and how strong the wind is at most, need not be so together.
		{spent(held(bookA(), 0, reach(31, 33)), rode(0)), 0, 1, 0}, {spent(gauged(held(bookA(), 0, reach(31, 33)), 0, reach(30, 31)), dragged(0)), 0, 1, -1},
	} {
		if anchor, spare, found, h := mooring.First(x.b, x.wind); anchor != x.anchor || spare != x.spare || !found || h != api.Smooth {
			t.Errorf("%d: %d, %d, %v, %v", i, anchor, spare, found, h)
		}
	}
	for i, b := range []api.MooringBook{lone(), spent(lone(), dragged(0)), blown(bookA(), wind(2, one(5)), wind(1, one(1)))} {
		if i == 2 {
			b = anchored(b, anchor(-1, 1, mud, 5, 5))
		}
		if anchor, spare, found, h := mooring.First(b, 0); anchor != -1 || spare != 0 || found || h != api.Smooth {
			t.Errorf("%d: %d, %d, %v, %v", i, anchor, spare, found, h)
		}
	}
}

func TestShift(t *testing.T) {
	single := anchored(bookA(), bookA().Anchors[2])
	to := func(winds ...api.MooringWind) api.MooringBook { return blown(single, winds...) }
	east := anchor(3, 0, rock, 30, 30)
	// The first anchor is too weak to bear at all.
	shy := anchored(to(wind(0, one(30)), wind(4, one(30))), anchor(0, 1, rock, 1, 30), anchor(0, 5, rock, 99, 30), anchor(0, -5, rock, 99, 30))
	for i, x := range []struct {
		b      api.MooringBook
		anchor int
		to     api.MooringPlace
		found  bool
	}{
		{bookA(), 0, at(2, 3), true}, {spent(bookA(), rode(0)), -1, at(0, 0), true}, {gauged(bookA(), 0, one(30)), -1, at(0, 0), true}, {gauged(bookA(), 0, reach(38, 40)), -1, at(0, 0), false}, {lone(), -1, at(0, 0), false},
		// To the other side of her; the lighter herself is no place, nor is one too far.
		{to(wind(0, one(30))), 0, at(0, 1), true}, {to(wind(0, one(31))), -1, at(0, 0), false}, {to(wind(4, one(30))), -1, at(0, 0), true}, {anchored(to(wind(0, one(30))), anchor(0, -1, rock, 30, 30)), 0, at(0, 1), true},
		// The place farthest south, then farthest west.
		{to(wind(6, one(30))), 0, at(-1, -3), true}, {to(wind(2, one(30))), 0, at(1, -3), true}, {anchored(to(wind(1, one(30))), anchor(-1, -1, rock, 30, 30)), 0, at(2, -1), true}, {anchored(to(wind(0, one(30))), anchor(1, 0, rock, 30, 30)), 0, at(1, 1), true}, {anchored(to(wind(2, one(30))), anchor(0, 1, rock, 30, 30)), 0, at(1, 1), true}, {anchored(to(wind(1, one(30))), anchor(0, -1, rock, 30, 30)), 0, at(2, -1), true},
		// Farther north, or east, if it is fewer feet, or the anchor before.
		{to(wind(1, one(30))), 0, at(4, -3), true}, {anchored(to(wind(6, one(30))), bookA().Anchors[2], east), 0, at(-1, -3), true}, {anchored(to(wind(6, one(30))), east, bookA().Anchors[2]), 1, at(-1, -3), true}, {anchored(to(wind(6, one(30))), anchor(0, 4, rock, 30, 30), bookA().Anchors[2]), 0, at(-1, 4), true}, {anchored(to(wind(6, one(30))), bookA().Anchors[2], anchor(0, 4, rock, 30, 30)), 0, at(-1, -3), true},
		{shy, 0, at(-1, 0), true}, {moved(shy, 0, at(0, -1)), 0, at(-1, 0), true}, {moved(shy, 0, at(1, 1)), 0, at(1, 0), true},
		// Two sides, or opposite ones.
		{to(wind(2, one(10)), wind(6, one(10))), -1, at(0, 0), false}, {to(wind(0, one(10)), wind(2, one(10))), 0, at(1, 1), true}, {to(wind(0, one(10)), wind(4, one(10))), -1, at(0, 0), false},
		// The ground holds as little of the anchor that is shifted, and the cable is as short.
		{anchored(to(wind(0, one(15))), anchor(0, -3, mud, 30, 12)), 0, at(0, 1), true}, {anchored(to(wind(0, one(16))), anchor(0, -3, mud, 30, 12)), -1, at(0, 0), false}, {anchored(to(wind(0, one(16))), anchor(0, -3, mud, 30, 12), anchor(0, -3, rock, 30, 30)), 1, at(0, 1), true},
	} {
		if anchor, to, found, h := mooring.Shift(x.b); anchor != x.anchor || to != x.to || found != x.found || h != api.Smooth {
			t.Errorf("%d: %d, %v, %v, %v", i, anchor, to, found, h)
		}
	}
}

// Nights were with the anchor where it was: they tell nothing else once it is shifted.
func TestShiftKeepsCases(t *testing.T) {
	// She dragged in 30 from the north as the mud holds 29; it does not matter where the anchor lies now.
	b := blown(anchored(bookA(), anchor(0, 3, mud, 99, 15)), wind(0, one(30)), wind(2, one(29)))
	b = spent(held(b, 0, reach(28, 30)), dragged(0))
	if anchor, to, found, h := mooring.Shift(b); anchor != -1 || to != at(0, 0) || found || h != api.Smooth {
		t.Errorf("%d, %v, %v, %v", anchor, to, found, h)
	}
	b = blown(anchored(bookA(), anchor(0, 3, mud, 99, 15)), wind(0, one(30)), wind(2, one(30)))
	b = spent(held(b, 0, reach(29, 31)), rode(0))
	if anchor, to, found, h := mooring.Shift(b); anchor != 0 || to != at(1, 3) || !found || h != api.Smooth {
		t.Errorf("%d, %v, %v, %v", anchor, to, found, h)
	}
}

func TestAllAsReckonedOtherwise(t *testing.T) {
	adrift := 0
	seen := map[string]int{}
	eachRandom(400, func(r *rand.Rand, b api.MooringBook) {
		cases := modelCases(b)
		if n := mustCases(t, b); n != len(cases) {
			t.Fatalf("Cases(%v): %d, want %d", b, n, len(cases))
		}
		if len(cases) == 0 {
			adrift++
			checkAdrift(t, b)
			return
		}
		checkNumbers(t, b, cases)
		checkWinds(t, b, cases, seen)
		checkShift(t, b, cases, seen)
		kind, left := modelAsk(cases)
		if k, n, h := mooring.Ask(b); k != kind || n != left || h != api.Smooth {
			t.Errorf("Ask(%v): %d, %d, %v, want %d, %d", b, k, n, h, kind, left)
		}
		seen["ask "+string(rune('1'+kind))]++
	})
	if adrift < 20 || adrift > 200 {
		t.Errorf("%d of 400 books have no case", adrift)
	}
	for _, what := range []string{"unsure", "surely", "never", "safe unsure", "safe surely", "safe never", "none bears", "ask 0", "ask 1", "ask 2", "ask 3", "safe already", "shift", "later shift", "far shift", "no shift"} {
		if seen[what] < 5 {
			t.Errorf("so much was seen: %v", seen)
		}
	}
}

// checkAdrift checks what is told of a book that has no case.
func checkAdrift(t *testing.T, b api.MooringBook) {
	t.Helper()
	model.CheckZero(t, api.Adrift, questions(b)...)
	model.CheckZero(t, api.Adrift, withWind(b, 0)...)
	model.CheckZero(t, api.Adrift, func() (bool, api.Hitch) {
		l, h := mooring.Grounds(b, mud)
		return l == nil, h
	}, func() (bool, api.Hitch) {
		o, h := mooring.Gauge(b, 0, b.Winds[0].Strength)
		return isZero(o), h
	}, func() (bool, api.Hitch) {
		o, h := mooring.Test(b, mud, b.Grounds[0])
		return isZero(o), h
	})
}

// checkNumbers checks what is told of grounds and winds.
func checkNumbers(t *testing.T, b api.MooringBook, cases []api.MooringCase) {
	t.Helper()
	for kind := range 3 {
		want := model.NumbersOf(cases, func(c api.MooringCase) int { return c.Grounds[kind] })
		if l, h := mooring.Grounds(b, api.MooringKind(kind)); !slices.Equal(l, want) || h != api.Smooth {
			t.Errorf("Grounds(%v, %d): %v, %v, want %v", b, kind, l, h, want)
		}
	}
	for wind := range b.Winds {
		want := model.NumbersOf(cases, func(c api.MooringCase) int { return c.Strengths[wind] })
		if l, h := mooring.Strengths(b, wind); !slices.Equal(l, want) || h != api.Smooth {
			t.Errorf("Strengths(%v, %d): %v, %v, want %v", b, wind, l, h, want)
		}
	}
}

// checkWinds checks what is told of whether she rides, and of what would drag first.
func checkWinds(t *testing.T, b api.MooringBook, cases []api.MooringCase, seen map[string]int) {
	t.Helper()
	words := map[api.Known]string{unsure: "unsure", surely: "surely", never: "never"}
	for wind := range b.Winds {
		want := model.Known(cases, func(c api.MooringCase) bool { return modelRides(b, c, wind) })
		if u, h := mooring.Rides(b, wind); u != want || h != api.Smooth {
			t.Errorf("Rides(%v, %d): %v, %v, want %v", b, wind, u, h, want)
		}
		seen[words[want]]++
		anchor, spare, found := modelFirst(b, cases, wind)
		if i, n, is, h := mooring.First(b, wind); i != anchor || n != spare || is != found || h != api.Smooth {
			t.Errorf("First(%v, %d): %d, %d, %v, %v, want %d, %d, %v", b, wind, i, n, is, h, anchor, spare, found)
		}
		if !found {
			seen["none bears"]++
		}
	}
	want := model.Known(cases, func(c api.MooringCase) bool { return modelRidesInAll(b, c) })
	if u, h := mooring.Safe(b); u != want || h != api.Smooth {
		t.Errorf("Safe(%v): %v, %v, want %v", b, u, h, want)
	}
	seen["safe "+words[want]]++
}

func checkShift(t *testing.T, b api.MooringBook, cases []api.MooringCase, seen map[string]int) {
	t.Helper()
	anchor, to, found := modelShift(b, cases)
	if i, p, is, h := mooring.Shift(b); i != anchor || p != to || is != found || h != api.Smooth {
		t.Errorf("Shift(%v): %d, %v, %v, %v, want %d, %v, %v", b, i, p, is, h, anchor, to, found)
	}
	switch {
	case !found:
		seen["no shift"]++
		return
	case anchor < 0:
		seen["safe already"]++
		return
	case anchor > 0:
		seen["later shift"]++
	}
	if feet(b, anchor, to) > 2 {
		seen["far shift"]++
	}
	seen["shift"]++
}

func TestWhatIsNotThere(t *testing.T) {
	for _, b := range []api.MooringBook{bookA(), adriftBook()} {
		for _, i := range []int{-1, 3, 8, math.MinInt, math.MaxInt} {
			model.CheckZero(t, api.Missing, withWind(b, i)...)
			model.CheckZero(t, api.Missing, withKind(b, i)...)
			model.CheckZero(t, api.Missing, func() (bool, api.Hitch) {
				n, h := mooring.Windward(b, i, 0)
				return n == 0, h
			}, func() (bool, api.Hitch) {
				n, h := mooring.Hold(b, caseC(), i)
				return n == 0, h
			}, func() (bool, api.Hitch) {
				l, h := mooring.Pulls(b, caseC(), i)
				return l == nil, h
			}, func() (bool, api.Hitch) {
				o, h := mooring.Gauge(b, i, reach(2, 1))
				return isZero(o), h
			})
		}
		// There are three anchors, but two winds; and eight sides.
		model.CheckZero(t, api.Missing, withWind(b, 2)...)
		for _, side := range []int{-1, 8, math.MinInt, math.MaxInt} {
			model.CheckZero(t, api.Missing, func() (bool, api.Hitch) {
				n, h := mooring.Windward(b, 0, side)
				return n == 0, h
			})
		}
	}
	if n, h := mooring.Windward(bookA(), 2, 7); n != -3 || h != api.Smooth {
		t.Errorf("%d, %v", n, h)
	}
}

func TestClash(t *testing.T) {
	for i, x := range []struct {
		b    api.MooringBook
		want []int
	}{
		{bookA(), nil}, {spent(bookA(), rode(0)), nil}, {spent(bookA(), rode(0), rode(1), rode(0)), nil}, {adriftBook(), []int{1}}, {spent(bookA(), rode(0), dragged(0)), []int{0, 1}}, {spent(bookA(), dragged(1)), []int{0}}, {spent(bookA(), rode(0), dragged(0), dragged(1)), []int{2}}, {spent(bookA(), rode(0), rode(0), dragged(0), dragged(0)), []int{0, 2}}, {spent(bookA(), rode(1), dragged(0), rode(1), rode(0)), []int{1, 3}}, {spent(lone(), dragged(0), rode(0)), []int{1}},
		{spent(both(), rode(0), rode(1), dragged(2)), []int{0, 1, 2}}, {spent(both(), dragged(2), rode(1), rode(1), rode(0)), []int{0, 1, 3}}, {spent(both(), rode(0), dragged(1), rode(2)), []int{1, 2}}, {spent(both(), rode(0), dragged(1), dragged(2)), nil}, {spent(both(), dragged(0), dragged(1), rode(2)), []int{0, 2}},
	} {
		if l, h := mooring.Clash(x.b); !slices.Equal(l, x.want) || h != api.Smooth {
			t.Errorf("%d: %v, %v", i, l, h)
		}
	}
}

// nightsAtRandom returns a book with four nights, right or wrong.
func nightsAtRandom(r *rand.Rand, b api.MooringBook) api.MooringBook {
	b = only(b, nil)
	for range 4 {
		b.Nights = append(b.Nights, api.MooringNight{Wind: r.Intn(len(b.Winds)), Rode: r.Intn(2) == 0})
	}
	return b
}

func TestClashAsReckonedOtherwise(t *testing.T) {
	clashed := map[int]int{}
	eachRandom(400, func(r *rand.Rand, b api.MooringBook) {
		b = nightsAtRandom(r, b)
		few := modelClash(b)
		clashed[len(few)]++
		if l, h := mooring.Clash(b); !slices.Equal(l, few) || h != api.Smooth {
			t.Errorf("Clash(%v): %v, %v, want %v", b, l, h, few)
		}
	})
	if clashed[0] < 10 || clashed[1] < 10 || clashed[2] < 10 {
		t.Errorf("so many books by how many nights clash: %v", clashed)
	}
}

func TestAsk(t *testing.T) {
	wide := held(held(held(bookA(), 0, reach(30, 31)), 1, reach(24, 25)), 2, reach(38, 40))
	for i, x := range []struct {
		b          api.MooringBook
		kind, left int
	}{
		{bookA(), 0, 3}, {spent(bookA(), rode(0)), 0, 1}, {spent(bookA(), dragged(0)), 0, 2}, {held(bookA(), 0, one(30)), -1, 3}, {spent(held(bookA(), 0, one(30)), rode(0)), -1, 1}, {held(bookA(), 1, reach(24, 26)), 1, 6}, {held(bookA(), 1, reach(24, 25)), 0, 6}, {held(held(bookA(), 0, one(30)), 2, reach(39, 40)), 2, 3}, {wide, 2, 12}, {held(wide, 2, reach(39, 40)), 0, 12}, {held(wide, 0, one(30)), 2, 6},
		// A kind on which no anchor lies is as good.
		{lone(), 0, 3}, {held(lone(), 1, reach(24, 26)), 1, 6},
		// In the worst case: the mud holds 31 in one case, and 32 or 33 in three each.
		{spent(held(bookA(), 0, reach(31, 33)), rode(0)), 0, 3},
	} {
		if kind, left, h := mooring.Ask(x.b); kind != x.kind || left != x.left || h != api.Smooth {
			t.Errorf("%d: %d, %d, %v", i, kind, left, h)
		}
	}
}

func TestNight(t *testing.T) {
	full := spent(bookA(), rode(0), rode(0), rode(1), rode(0))
	for i, x := range []struct {
		b    api.MooringBook
		n    api.MooringNight
		want api.Hitch
	}{
		{bookA(), rode(0), api.Smooth}, {bookA(), dragged(0), api.Smooth}, {bookA(), rode(1), api.Smooth}, {spent(bookA(), rode(0)), rode(0), api.Smooth}, {spent(bookA(), dragged(0)), rode(1), api.Smooth}, {lone(), dragged(0), api.Smooth}, {spent(full, full.Nights...), rode(0), api.Number}, {only(full, []int{0, 1, 2}), rode(0), api.Smooth},
		{bookA(), dragged(1), api.Adrift}, {spent(bookA(), rode(0)), dragged(0), api.Adrift}, {spent(bookA(), dragged(0)), rode(0), api.Adrift}, {adriftBook(), rode(0), api.Adrift}, {adriftBook(), dragged(0), api.Adrift}, {lone(), rode(0), api.Adrift},
		{bookA(), rode(2), api.Missing}, {bookA(), dragged(-1), api.Missing}, {bookA(), rode(math.MinInt), api.Missing}, {adriftBook(), rode(math.MaxInt), api.Missing},
		{full, rode(0), api.Number}, {full, rode(9), api.Number}, {full, dragged(0), api.Number}, {held(full, 0, one(-1)), rode(0), api.Bounds}, {api.MooringBook{}, rode(0), api.Bounds},
	} {
		o, h := mooring.Night(x.b, x.n)
		if h != x.want || h != api.Smooth && !isZero(o) {
			t.Errorf("%d: %v, %v", i, o, h)
		}
		if h == api.Smooth && !equal(o, spent(x.b, x.n)) {
			t.Errorf("%d: %v", i, o)
		}
	}
	for n, want := range map[api.MooringNight]int{rode(0): 2, dragged(0): 4, rode(1): 6} {
		if o, h := mooring.Night(bookA(), n); mustCases(t, o) != want || h != api.Smooth {
			t.Errorf("%v: %v, %v", n, o, h)
		}
	}
}

func TestGauge(t *testing.T) {
	for i, x := range []struct {
		b           api.MooringBook
		wind        int
		x, strength api.Reach
	}{
		{bookA(), 0, one(30), one(30)}, {bookA(), 0, reach(1, 199), reach(30, 32)}, {bookA(), 0, reach(31, 40), reach(31, 32)}, {bookA(), 0, reach(1, 31), reach(30, 31)}, {bookA(), 0, one(31), one(31)}, {bookA(), 1, reach(29, 30), one(30)}, {spent(bookA(), rode(0)), 0, reach(30, 31), reach(30, 31)}, {spent(bookA(), dragged(0)), 0, reach(32, 199), one(32)}, {gauged(bookA(), 1, reach(1, 3)), 1, reach(1, 2), reach(1, 2)},
	} {
		if o, h := mooring.Gauge(x.b, x.wind, x.x); !equal(o, gauged(x.b, x.wind, x.strength)) || h != api.Smooth {
			t.Errorf("%d: %v, %v", i, o, h)
		}
	}
	for i, x := range []struct {
		b    api.MooringBook
		wind int
		x    api.Reach
		want api.Hitch
	}{
		{bookA(), 0, one(33), api.Adrift}, {bookA(), 0, reach(1, 29), api.Adrift}, {bookA(), 1, reach(31, 199), api.Adrift}, {spent(bookA(), rode(0)), 0, reach(31, 32), api.Adrift}, {spent(bookA(), dragged(0)), 0, one(30), api.Adrift}, {adriftBook(), 0, reach(1, 199), api.Adrift}, {adriftBook(), 0, one(50), api.Adrift},
		{bookA(), 0, reach(0, 30), api.Bounds}, {bookA(), 0, reach(30, 200), api.Bounds}, {bookA(), 0, reach(31, 30), api.Bounds}, {bookA(), 1, reach(math.MinInt, math.MaxInt), api.Bounds}, {adriftBook(), 0, one(0), api.Bounds},
		{bookA(), 2, reach(31, 30), api.Missing}, {bookA(), -1, one(30), api.Missing}, {adriftBook(), math.MaxInt, one(0), api.Missing}, {held(bookA(), 0, one(100)), 2, one(0), api.Bounds}, {api.MooringBook{}, 0, one(1), api.Bounds},
	} {
		if o, h := mooring.Gauge(x.b, x.wind, x.x); !isZero(o) || h != x.want {
			t.Errorf("%d: %v, %v", i, o, h)
		}
	}
	o, _ := mooring.Gauge(bookA(), 0, one(30))
	if u, h := mooring.Safe(o); u != surely || h != api.Smooth {
		t.Errorf("%v, %v", u, h)
	}
}

func TestTest(t *testing.T) {
	for i, x := range []struct {
		b        api.MooringBook
		kind     api.MooringKind
		x, holds api.Reach
	}{
		{bookA(), mud, one(31), one(31)}, {bookA(), mud, reach(0, 99), reach(30, 31)}, {bookA(), mud, reach(0, 30), one(30)}, {bookA(), sand, reach(24, 30), one(24)}, {bookA(), rock, one(40), one(40)}, {spent(bookA(), rode(0)), mud, one(30), one(30)}, {spent(held(bookA(), 0, reach(31, 33)), dragged(0)), mud, reach(31, 32), reach(31, 32)}, {held(bookA(), 1, reach(0, 2)), sand, reach(0, 1), reach(0, 1)},
	} {
		if o, h := mooring.Test(x.b, x.kind, x.x); !equal(o, held(x.b, int(x.kind), x.holds)) || h != api.Smooth {
			t.Errorf("%d: %v, %v", i, o, h)
		}
	}
	for i, x := range []struct {
		b    api.MooringBook
		kind api.MooringKind
		x    api.Reach
		want api.Hitch
	}{
		{bookA(), sand, one(25), api.Adrift}, {bookA(), mud, reach(32, 99), api.Adrift}, {bookA(), rock, reach(0, 39), api.Adrift}, {spent(held(bookA(), 0, reach(31, 33)), dragged(0)), mud, reach(32, 33), api.Adrift}, {adriftBook(), mud, reach(0, 99), api.Adrift}, {adriftBook(), mud, one(0), api.Adrift},
		{bookA(), sand, reach(-1, 24), api.Bounds}, {bookA(), sand, reach(24, 100), api.Bounds}, {bookA(), rock, reach(40, 39), api.Bounds}, {bookA(), mud, reach(math.MinInt, math.MaxInt), api.Bounds}, {adriftBook(), mud, one(100), api.Bounds},
		{bookA(), 3, reach(40, 39), api.Missing}, {bookA(), -1, one(30), api.Missing}, {adriftBook(), math.MinInt, one(100), api.Missing}, {gauged(bookA(), 0, one(0)), 3, one(0), api.Bounds}, {api.MooringBook{}, 0, one(1), api.Bounds},
	} {
		if o, h := mooring.Test(x.b, x.kind, x.x); !isZero(o) || h != x.want {
			t.Errorf("%d: %v, %v", i, o, h)
		}
	}
}

const (
	textA = "mooring 5 30:31 24 40\nanchor 2 2 sand 40 20\nanchor -4 2 mud 25 12\nanchor 0 -3 rock 30 30\nwind n 30:32\nwind s 30\n"
	small = "mooring 1 0 0 0\nanchor 1 0 mud 1 1\nwind e 1\n"
)

func TestPrint(t *testing.T) {
	all := spent(widest(), rode(2), dragged(0), rode(1), dragged(1))
	for want, b := range map[string]api.MooringBook{
		textA: bookA(), textA + "night 0 rode\nnight 1 dragged\n": adriftBook(), textA + "night 0 dragged\n": spent(bookA(), dragged(0)),
		"mooring 30 97:99 97:99 97:99\nanchor 5 5 mud 99 99\nanchor 5 -5 sand 99 99\nanchor -5 -5 rock 99 99\nanchor -5 5 mud 99 99\nwind n 197:199\nwind se 197:199\nwind nw 197:199\nnight 2 rode\nnight 0 dragged\nnight 1 rode\nnight 1 dragged\n": all,
		small: {Depth: 1, Anchors: []api.MooringAnchor{anchor(1, 0, mud, 1, 1)}, Grounds: []api.Reach{one(0), one(0), one(0)}, Winds: []api.MooringWind{wind(2, one(1))}},
	} {
		if s, h := mooring.Print(b); s != want || h != api.Smooth {
			t.Errorf("%q, %v, want %q", s, h, want)
		}
		if o, n, h := mooring.Parse(want); !equal(o, b) || n != 0 || h != api.Smooth {
			t.Errorf("%q: %v, %d, %v", want, o, n, h)
		}
	}
	for side, word := range []string{"n", "ne", "e", "se", "s", "sw", "w", "nw"} {
		b := blown(bookA(), wind(side, reach(1, 2)))
		if s, h := mooring.Print(b); !strings.HasSuffix(s, "\nwind "+word+" 1:2\n") || h != api.Smooth {
			t.Errorf("%d: %q, %v", side, s, h)
		} else if o, n, h := mooring.Parse(s); !equal(o, b) || n != 0 || h != api.Smooth {
			t.Errorf("%q: %v, %d, %v", s, o, n, h)
		}
	}
	if s, h := mooring.Print(api.MooringBook{}); s != "" || h != api.Bounds {
		t.Errorf("%q, %v", s, h)
	}
}

func TestParseWrongLines(t *testing.T) {
	head, anchored := "mooring 1 0 0 0\n", "mooring 1 0 0 0\nanchor 1 0 mud 1 1\n"
	for s, line := range map[string]int{
		"": 0, "\n": 1, "\n" + small: 1, "mooring": 1, "mooring\n": 1, "mooring 1 0 0\n": 1, "mooring 1 0 0 0 0\n": 1, "mooring x 0 0 0\n": 1, "mooring 1:2 0 0 0\n": 1, "mooring 1 x 0 0\n": 1, "mooring 1 0 5:5 0\n": 1, "mooring 1 0 0 5:\n": 1, "mooring 1 0 0 -\n": 1, "mooring 1 0 0 0,1\n": 1, "mooring 01 0 0 0\n": 1, "mooring 1 -0 0 0\n": 1, "mooring 1 0 +1 0\n": 1, "mooring 1 0 0 0 \n": 1, "mooring  1 0 0 0\n": 1, " mooring 1 0 0 0\n": 1, "Mooring 1 0 0 0\n": 1, "moorings 1 0 0 0\n": 1, "mooring 1 0 0 0\r\n": 1, "mooring 1234567890 0 0 0\n": 1,
		"anchor 1 0 mud 1 1\n": 1, "wind e 1\n": 1, "night 0 rode\n": 1, "anchor 1 0 mud 1 1\nmooring 1 0 0 0\n": 1, head + head: 2, head + "\n": 2,
		head + "anchor\n": 2, head + "anchor 1 0 mud 1\n": 2, head + "anchor 1 0 mud 1 1 1\n": 2, head + "anchor x 0 mud 1 1\n": 2, head + "anchor 1 x mud 1 1\n": 2, head + "anchor 1 0 x 1 1\n": 2, head + "anchor 1 0 Mud 1 1\n": 2, head + "anchor 1 0 0 1 1\n": 2, head + "anchor 1 0 clay 1 1\n": 2, head + "anchor mud 1 0 1 1\n": 2, head + "anchor 1 0 mud x 1\n": 2, head + "anchor 1 0 mud 1 x\n": 2, head + "anchor 1 0 mud 1:2 1\n": 2, head + "anchor 1 0 mud 1 1:2\n": 2, head + "anchor 1:2 0 mud 1 1\n": 2, head + "anchor 01 0 mud 1 1\n": 2, head + "anchor 1 -0 mud 1 1\n": 2, head + "anchor  0 mud 1 1\n": 2, head + "anchors 1 0 mud 1 1\n": 2, head + "water 1 0 mud 1 1\n": 2,
		anchored + "wind\n": 3, anchored + "wind e\n": 3, anchored + "wind e 1 1\n": 3, anchored + "wind east 1\n": 3, anchored + "wind E 1\n": 3, anchored + "wind 2 1\n": 3, anchored + "wind es 1\n": 3, anchored + "wind - 1\n": 3, anchored + "wind e x\n": 3, anchored + "wind e 1:1\n": 3, anchored + "wind e -\n": 3, anchored + "wind 1 e\n": 3, anchored + "wind  1\n": 3, anchored + "winds e 1\n": 3, anchored + head: 3,
		small + small: 4, small + "\n": 4, small + "anchor 1 0 mud 1 1\n": 4, small + "night\n": 4, small + "night 0\n": 4, small + "night 0 rode rode\n": 4, small + "night x rode\n": 4, small + "night 0:1 rode\n": 4, small + "night - rode\n": 4, small + "night 0 Rode\n": 4, small + "night 0 rides\n": 4, small + "night 0 yes\n": 4, small + "night 0 -\n": 4, small + "night 0 0\n": 4, small + "night rode 0\n": 4, small + "night  rode\n": 4, small + "nights 0 rode\n": 4, small + head: 4,
		small + "night 0 rode\nwind e 1\n": 5, small + "night 0 dragged\nanchor 1 0 mud 1 1\n": 5, small + "night 0 rode\nmooring 1 0 0 0\n": 5, small + "night 0 rode\nnight 0 dragged\n\n": 6, head + "wind e 1\nanchor 1 0 mud 1 1\n": 3, anchored + "night 0 rode\nwind e 1\n": 4,
		"mooring 99 100 7:5 0\nanchor 0 0 mud 0 0\nwind n 0\nnight 9 rode\nnight\n": 5, strings.Repeat("\n", api.MaxText): 1,
	} {
		if b, n, h := mooring.Parse(s); !isZero(b) || n != line || h != api.Shape {
			t.Errorf("%.80q: %v, %d, %v, want line %d", s, b, n, h, line)
		}
	}
}

func TestParseHitches(t *testing.T) {
	head, rest := "mooring 1 0 0 0\n", "anchor 1 0 mud 1 1\nwind e 1\n"
	for s, want := range map[string]api.Hitch{
		head:                           api.Number,
		strings.TrimSuffix(head, "\n"): api.Number,
		head + "wind e 1\n":            api.Number,
		head + "night 0 rode\n":        api.Number,
		head + "anchor 1 0 mud 1 1\n":  api.Number,
		head + "anchor 1 0 mud 1 1\nnight 0 rode\n":         api.Number,
		"mooring 0 0 0 0\n" + rest:                          api.Bounds,
		"mooring 31 0 0 0\n" + rest:                         api.Bounds,
		"mooring -1 0 0 0\n":                                api.Bounds,
		"mooring 999999999 0 0 0\n":                         api.Bounds,
		"mooring 1 -1 0 0\n" + rest:                         api.Bounds,
		"mooring 1 0 100 0\n" + rest:                        api.Bounds,
		"mooring 1 0 0 7:5\n" + rest:                        api.Bounds,
		"mooring 1 0 0 0:3\n" + rest:                        api.Bounds,
		head + "anchor 6 0 mud 1 1\n":                       api.Bounds,
		head + "anchor 0 -6 mud 1 1\n":                      api.Bounds,
		head + "anchor 0 0 mud 1 1\n":                       api.Crossed,
		head + "anchor 1 0 mud 0 1\n":                       api.Bounds,
		head + "anchor 1 0 mud 1 100\n":                     api.Bounds,
		head + "anchor 1 0 mud 1 1\nwind e 0\n":             api.Bounds,
		head + "anchor 1 0 mud 1 1\nwind e 200\n":           api.Bounds,
		head + "anchor 1 0 mud 1 1\nwind e 2:1\n":           api.Bounds,
		head + "anchor 1 0 mud 1 1\nwind e 1:4\n":           api.Bounds,
		small + strings.Repeat("wind e 1\n", 3):             api.Number,
		small + "night 1 rode\n":                            api.Missing,
		small + "night -1 rode\n":                           api.Missing,
		small + strings.Repeat("night 0 rode\n", 5):         api.Number,
		head + strings.Repeat("anchor 1 0 mud 1 1\n", 2000): api.Number,
		strings.Repeat("m", api.MaxText+1):                  api.Number,
		strings.Repeat(textA, api.MaxText):                  api.Number,
	} {
		if b, n, h := mooring.Parse(s); !isZero(b) || n != 0 || h != want {
			t.Errorf("%.80q: %v, %d, %v", s, b, n, h)
		}
	}
	// A book without a case is read, with its last line feed or without it.
	if b, n, h := mooring.Parse(textA + "night 0 rode\nnight 1 dragged"); !equal(b, adriftBook()) || n != 0 || h != api.Smooth {
		t.Errorf("%v, %d, %v", b, n, h)
	}
	// A text as long as the limit is read: its first line is wrong.
	if b, n, h := mooring.Parse(strings.Repeat("m", api.MaxText)); !isZero(b) || n != 1 || h != api.Shape {
		t.Errorf("%v, %d, %v", b, n, h)
	}
}
