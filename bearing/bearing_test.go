package bearing_test

import (
	"math"
	"math/rand"
	"slices"
	"strings"
	"testing"

	"lagan/api"
	"lagan/bearing"
	"lagan/model"
)

// Tests of P1.1 to P1.5: what the functions return.

func TestCheckChart(t *testing.T) {
	for name, x := range map[string]struct {
		change func(b *api.BearingChart)
		want   api.Hitch
	}{
		"as it is":                {func(b *api.BearingChart) {}, api.Smooth},
		"least sides":             {func(b *api.BearingChart) { b.Wide, b.High, b.False = 2, 2, 0 }, api.Smooth},
		"greatest sides":          {func(b *api.BearingChart) { b.Wide, b.High, b.False = 7, 7, 2 }, api.Smooth},
		"narrow":                  {func(b *api.BearingChart) { b.Wide = 1 }, api.Bounds},
		"wide":                    {func(b *api.BearingChart) { b.Wide = 8 }, api.Bounds},
		"low":                     {func(b *api.BearingChart) { b.High = 1 }, api.Bounds},
		"high":                    {func(b *api.BearingChart) { b.High = 8 }, api.Bounds},
		"far below":               {func(b *api.BearingChart) { b.High = math.MinInt }, api.Bounds},
		"False below":             {func(b *api.BearingChart) { b.False = -1 }, api.Bounds},
		"False above":             {func(b *api.BearingChart) { b.False = 3 }, api.Bounds},
		"no compass":              {func(b *api.BearingChart) { b.Compasses = nil }, api.Number},
		"three compasses":         {func(b *api.BearingChart) { b.Compasses = make([]api.Reach, 3) }, api.Smooth},
		"four compasses":          {func(b *api.BearingChart) { b.Compasses = make([]api.Reach, 4) }, api.Number},
		"off least":               {func(b *api.BearingChart) { b.Compasses[0] = reach(-3, -1) }, api.Smooth},
		"off most":                {func(b *api.BearingChart) { b.Compasses[0] = reach(1, 3) }, api.Smooth},
		"off below":               {func(b *api.BearingChart) { b.Compasses[0] = reach(-4, -3) }, api.Bounds},
		"off above":               {func(b *api.BearingChart) { b.Compasses[0] = reach(3, 4) }, api.Bounds},
		"off turned":              {func(b *api.BearingChart) { b.Compasses[0] = reach(1, 0) }, api.Bounds},
		"off by four numbers":     {func(b *api.BearingChart) { b.Compasses[0] = reach(-1, 2) }, api.Bounds},
		"off by anything":         {func(b *api.BearingChart) { b.Compasses[0] = reach(math.MinInt, math.MaxInt) }, api.Bounds},
		"no witness":              {func(b *api.BearingChart) { b.Witnesses = nil }, api.Smooth},
		"five witnesses":          {func(b *api.BearingChart) { b.Witnesses = make([]api.BearingWitness, 5) }, api.Smooth},
		"six witnesses":           {func(b *api.BearingChart) { b.Witnesses = make([]api.BearingWitness, 6) }, api.Number},
		"farthest places":         {func(b *api.BearingChart) { b.Witnesses[0].At, b.Witnesses[1].At = at(-20, 20), at(20, -20) }, api.Smooth},
		"too far west":            {func(b *api.BearingChart) { b.Witnesses[0].At = at(-21, 0) }, api.Bounds},
		"too far east":            {func(b *api.BearingChart) { b.Witnesses[0].At = at(21, 0) }, api.Bounds},
		"too far south":           {func(b *api.BearingChart) { b.Witnesses[0].At = at(0, -21) }, api.Bounds},
		"too far north":           {func(b *api.BearingChart) { b.Witnesses[0].At = at(0, 21) }, api.Bounds},
		"least bearing":           {func(b *api.BearingChart) { b.Witnesses[0].Bearing = 0 }, api.Smooth},
		"greatest bearing":        {func(b *api.BearingChart) { b.Witnesses[0].Bearing = 7 }, api.Smooth},
		"bearing below":           {func(b *api.BearingChart) { b.Witnesses[0].Bearing = -1 }, api.Bounds},
		"bearing above":           {func(b *api.BearingChart) { b.Witnesses[2].Bearing = 8 }, api.Bounds},
		"compass below":           {func(b *api.BearingChart) { b.Witnesses[0].Compass = -1 }, api.Missing},
		"compass above":           {func(b *api.BearingChart) { b.Witnesses[2].Compass = 2 }, api.Missing},
		"size, then compasses":    {func(b *api.BearingChart) { b.False, b.Compasses = 3, nil }, api.Bounds},
		"many, then what":         {func(b *api.BearingChart) { b.Compasses = []api.Reach{{}, {}, {}, {Most: 9}} }, api.Number},
		"compasses, then witness": {func(b *api.BearingChart) { b.Compasses[1], b.Witnesses = reach(4, 4), make([]api.BearingWitness, 6) }, api.Bounds},
		"witnesses, then what":    {func(b *api.BearingChart) { b.Witnesses = make([]api.BearingWitness, 6); b.Witnesses[0].Bearing = 8 }, api.Number},
		"bearing, then compass":   {func(b *api.BearingChart) { b.Witnesses[0].Bearing, b.Witnesses[0].Compass = 8, 2 }, api.Bounds},
		"witness by witness":      {func(b *api.BearingChart) { b.Witnesses[0].Compass, b.Witnesses[1].Bearing = 2, 8 }, api.Missing},
	} {
		b := bookK()
		x.change(&b)
		if h := bearing.CheckChart(b); h != x.want {
			t.Errorf("%s: %v, want %v", name, h, x.want)
		}
	}
}

func TestTrue(t *testing.T) {
	for to, want := range map[api.BearingSquare]int{
		at(2, 1): 1, at(3, 1): 2, at(5, -2): 2, at(1, -3): 4,
		at(0, 9): 0, at(9, 9): 1, at(9, 0): 2, at(9, -9): 3, at(0, -9): 4, at(-9, -9): 5, at(-9, 0): 6, at(-9, 9): 7,
		at(5, 12): 0, at(6, 12): 1, at(12, 6): 1, at(12, 5): 2, at(12, -5): 2, at(12, -6): 3, at(6, -12): 3, at(5, -12): 4,
		at(-5, -12): 4, at(-6, -12): 5, at(-12, -6): 5, at(-12, -5): 6, at(-12, 5): 6, at(-12, 6): 7, at(-6, 12): 7, at(-5, 12): 0,
		at(20, 20): 1, at(-20, -20): 5,
	} {
		if n, h := bearing.True(at(0, 0), to); n != want || h != api.Smooth {
			t.Errorf("True to %v: %d, %v, want %d", to, n, h, want)
		}
	}
	if n, h := bearing.True(at(3, 4), at(5, 3)); n != 3 || h != api.Smooth {
		t.Errorf("True from elsewhere: %d, %v", n, h)
	}
	for _, far := range []api.BearingSquare{at(21, 0), at(-21, 0), at(0, 21), at(0, -21), at(math.MinInt, 0), at(0, math.MaxInt)} {
		for _, pair := range [][2]api.BearingSquare{{far, at(0, 0)}, {at(0, 0), far}, {far, far}} {
			if n, h := bearing.True(pair[0], pair[1]); n != 0 || h != api.Bounds {
				t.Errorf("True(%v): %d, %v", pair, n, h)
			}
		}
	}
	if n, h := bearing.True(at(7, -7), at(7, -7)); n != 0 || h != api.Missing {
		t.Errorf("True to itself: %d, %v", n, h)
	}
}

func TestTrueAsReckonedOtherwise(t *testing.T) {
	for east := -20; east <= 20; east++ {
		for north := -20; north <= 20; north++ {
			from, to := at(2, -1), at(east, north)
			if n, _ := bearing.True(from, to); from != to && n != modelBearing(from, to) {
				t.Errorf("True(%v, %v): %d", from, to, n)
			}
		}
	}
}

func TestIsCase(t *testing.T) {
	sure := bookK()
	sure.Witnesses[0].Sure = true
	two := bookK()
	two.False = 2
	here := bookK()
	here.Witnesses = []api.BearingWitness{{At: at(1, 1), Bearing: 4}}
	for i, x := range []struct {
		b    api.BearingChart
		c    api.BearingCase
		want bool
		h    api.Hitch
	}{
		{bookK(), api.BearingCase{At: at(2, 1), Offs: []int{0, 1}}, true, api.Smooth},
		{bookK(), api.BearingCase{At: at(2, 1), Offs: []int{0, 0}}, false, api.Smooth},
		{bookK(), api.BearingCase{At: at(2, 1), Offs: []int{0, 1}, False: []int{2}}, true, api.Smooth},
		{bookK(), api.BearingCase{At: at(2, 1), Offs: []int{0, 1}, False: []int{0, 2}}, false, api.Smooth},
		{two, api.BearingCase{At: at(2, 1), Offs: []int{0, 1}, False: []int{0, 2}}, true, api.Smooth},
		{two, api.BearingCase{At: at(2, 1), Offs: []int{0, 1}, False: []int{0, 1, 2}}, false, api.Smooth},
		{sure, api.BearingCase{At: at(2, 1), Offs: []int{0, 1}, False: []int{0}}, false, api.Smooth},
		{bookK(), api.BearingCase{At: at(2, 1), Offs: []int{0, 2}}, false, api.Smooth},
		{bookK(), api.BearingCase{At: at(2, 1), Offs: []int{-3, 3}}, false, api.Smooth},
		{here, api.BearingCase{At: at(1, 1), Offs: []int{0, 0}}, true, api.Smooth},
		{here, api.BearingCase{At: at(1, 2), Offs: []int{0, 0}}, false, api.Smooth},
		{bookK(), api.BearingCase{At: at(3, 0)}, false, api.Missing},
		{bookK(), api.BearingCase{At: at(0, 3)}, false, api.Missing},
		{bookK(), api.BearingCase{At: at(-1, 0)}, false, api.Missing},
		{bookK(), api.BearingCase{At: at(0, math.MinInt)}, false, api.Missing},
		{bookK(), api.BearingCase{Offs: []int{9}, False: []int{9}}, false, api.Number},
		{bookK(), api.BearingCase{Offs: []int{0, 0, 0}}, false, api.Number},
		{bookK(), api.BearingCase{Offs: []int{0, 4}, False: []int{9}}, false, api.Bounds},
		{bookK(), api.BearingCase{Offs: []int{-4, 0}}, false, api.Bounds},
		{bookK(), api.BearingCase{Offs: []int{0, 0}, False: []int{3}}, false, api.Missing},
		{bookK(), api.BearingCase{Offs: []int{0, 0}, False: []int{-1}}, false, api.Missing},
		{bookK(), api.BearingCase{Offs: []int{0, 0}, False: []int{1, 1}}, false, api.Crossed},
		{bookK(), api.BearingCase{Offs: []int{0, 0}, False: []int{1, 0, 9}}, false, api.Crossed},
		{bookK(), api.BearingCase{Offs: []int{0, 0}, False: []int{2, 9, 0}}, false, api.Missing},
		{api.BearingChart{}, api.BearingCase{At: at(-1, 0)}, false, api.Bounds},
	} {
		if is, h := bearing.IsCase(x.b, x.c); is != x.want || h != x.h {
			t.Errorf("%d: %v, %v", i, is, h)
		}
	}
}

func TestIsCaseAsReckonedOtherwise(t *testing.T) {
	eachRandom(30, func(_ *rand.Rand, b api.BearingChart) {
		b.Wide, b.High = 2, 2
		for _, c := range modelAll(b, 1) {
			if is, h := bearing.IsCase(b, c); is != modelIs(b, c) || h != api.Smooth {
				t.Fatalf("IsCase(%v, %v): %v, %v", b, c, is, h)
			}
		}
	})
}

func TestCasesOfK(t *testing.T) {
	b := bookK()
	if n := mustCases(t, b); n != 14 {
		t.Errorf("Cases: %d", n)
	}
	want := []api.BearingSquare{at(0, 0), at(1, 0), at(2, 0), at(2, 1), at(1, 2), at(2, 2)}
	if l := mustWhere(t, b); !slices.Equal(l, want) {
		t.Errorf("Where: %v", l)
	}
	if e, n, h := bearing.Box(b); e != reach(0, 2) || n != reach(0, 2) || h != api.Smooth {
		t.Errorf("Box: %v, %v, %v", e, n, h)
	}
	if u, h := bearing.At(b, at(2, 0)); u != api.Unsure || h != api.Smooth {
		t.Errorf("At 2, 0: %v, %v", u, h)
	}
	if u, h := bearing.At(b, at(0, 1)); u != api.Never || h != api.Smooth {
		t.Errorf("At 0, 1: %v, %v", u, h)
	}
	if l, h := bearing.Off(b, 1); !slices.Equal(l, []int{0, 1}) || h != api.Smooth {
		t.Errorf("Off: %v, %v", l, h)
	}
	if u, h := bearing.False(b, 0); u != api.Unsure || h != api.Smooth {
		t.Errorf("False: %v, %v", u, h)
	}
	b.False = 0
	if n := mustCases(t, b); n != 2 {
		t.Errorf("Cases, none false: %d", n)
	}
	if l := mustWhere(t, b); !slices.Equal(l, []api.BearingSquare{at(2, 0), at(2, 1)}) {
		t.Errorf("Where, none false: %v", l)
	}
	if e, n, h := bearing.Box(b); e != reach(2, 2) || n != reach(0, 1) || h != api.Smooth {
		t.Errorf("Box, none false: %v, %v, %v", e, n, h)
	}
	if l, h := bearing.Off(b, 1); !slices.Equal(l, []int{1}) || h != api.Smooth {
		t.Errorf("Off, none false: %v, %v", l, h)
	}
	if u, h := bearing.False(b, 0); u != api.Never || h != api.Smooth {
		t.Errorf("False, none false: %v, %v", u, h)
	}
}

func TestCasesAtTheLimits(t *testing.T) {
	b := api.BearingChart{Wide: 7, High: 7, False: 2, Compasses: []api.Reach{reach(-3, -1), reach(-1, 1), reach(1, 3)}}
	if n := mustCases(t, b); n != 7*7*27 {
		t.Errorf("no witnesses: %d", n)
	}
	for i := range 5 {
		b.Witnesses = append(b.Witnesses, api.BearingWitness{At: at(20, 3), Bearing: 7, Compass: i % 3})
	}
	if n := mustCases(t, b); n != len(modelCases(b)) || n == 0 {
		t.Errorf("five witnesses: %d, want %d", n, len(modelCases(b)))
	}
}

func TestCasesAsReckonedOtherwise(t *testing.T) {
	eachRandom(200, func(_ *rand.Rand, b api.BearingChart) {
		cases := modelCases(b)
		if n := mustCases(t, b); n != len(cases) {
			t.Fatalf("Cases(%v): %d, want %d", b, n, len(cases))
		}
		if len(cases) == 0 {
			checkAdrift(t, b)
			return
		}
		checkSquares(t, b, cases)
		checkOffs(t, b, cases)
		for i := range b.Witnesses {
			want := model.Known(cases, func(c api.BearingCase) bool { return slices.Contains(c.False, i) })
			if u, h := bearing.False(b, i); u != want || h != api.Smooth {
				t.Errorf("False(%v, %d): %v, %v", b, i, u, h)
			}
		}
	})
}

// checkAdrift checks what is told of a book that has no case.
func checkAdrift(t *testing.T, b api.BearingChart) {
	t.Helper()
	if l, h := bearing.Where(b); l != nil || h != api.Adrift {
		t.Errorf("Where(%v): %v, %v", b, l, h)
	}
	if e, n, h := bearing.Box(b); e != reach(0, 0) || n != reach(0, 0) || h != api.Adrift {
		t.Errorf("Box(%v): %v, %v, %v", b, e, n, h)
	}
	if u, h := bearing.At(b, at(0, 0)); u != 0 || h != api.Adrift {
		t.Errorf("At(%v): %v, %v", b, u, h)
	}
	if l, h := bearing.Off(b, 0); l != nil || h != api.Adrift {
		t.Errorf("Off(%v): %v, %v", b, l, h)
	}
	if u, h := bearing.False(b, 0); u != 0 || h != api.Adrift {
		t.Errorf("False(%v): %v, %v", b, u, h)
	}
	if w, n, h := bearing.Ask(b); w != 0 || n != 0 || h != api.Adrift {
		t.Errorf("Ask(%v): %v, %v, %v", b, w, n, h)
	}
}

// checkSquares checks what is told of the squares of a book.
func checkSquares(t *testing.T, b api.BearingChart, cases []api.BearingCase) {
	t.Helper()
	var want []api.BearingSquare
	east, north := reach(9, -9), reach(9, -9)
	for n := range b.High {
		for e := range b.Wide {
			is := model.Known(cases, func(c api.BearingCase) bool { return c.At == at(e, n) })
			if u, h := bearing.At(b, at(e, n)); u != is || h != api.Smooth {
				t.Errorf("At(%v, %d, %d): %v, %v", b, e, n, u, h)
			}
			if is != api.Never {
				want = append(want, at(e, n))
				east = reach(min(east.Least, e), max(east.Most, e))
				north = reach(min(north.Least, n), max(north.Most, n))
			}
		}
	}
	if l := mustWhere(t, b); !slices.Equal(l, want) {
		t.Errorf("Where(%v): %v, want %v", b, l, want)
	}
	if e, n, h := bearing.Box(b); e != east || n != north || h != api.Smooth {
		t.Errorf("Box(%v): %v, %v, %v", b, e, n, h)
	}
}

// checkOffs checks what is told of the compasses of a book.
func checkOffs(t *testing.T, b api.BearingChart, cases []api.BearingCase) {
	t.Helper()
	for i := range b.Compasses {
		var want []int
		for off := -3; off <= 3; off++ {
			if slices.ContainsFunc(cases, func(c api.BearingCase) bool { return c.Offs[i] == off }) {
				want = append(want, off)
			}
		}
		if l, h := bearing.Off(b, i); !slices.Equal(l, want) || h != api.Smooth {
			t.Errorf("Off(%v, %d): %v, %v", b, i, l, h)
		}
	}
}

func TestWhatIsNotThere(t *testing.T) {
	adrift := bookK()
	adrift.False = 0
	adrift.Witnesses = append(adrift.Witnesses, witnessL())
	for _, b := range []api.BearingChart{bookK(), adrift} {
		for _, s := range []api.BearingSquare{at(-1, 0), at(0, -1), at(3, 0), at(0, 3), at(math.MaxInt, math.MinInt)} {
			if u, h := bearing.At(b, s); u != 0 || h != api.Missing {
				t.Errorf("At %v: %v, %v", s, u, h)
			}
		}
		for _, i := range []int{-1, 2, math.MinInt, math.MaxInt} {
			if l, h := bearing.Off(b, i); l != nil || h != api.Missing {
				t.Errorf("Off %d: %v, %v", i, l, h)
			}
			if o, h := bearing.Swing(b, i, reach(9, 0)); !isZero(o) || h != api.Missing {
				t.Errorf("Swing %d: %v, %v", i, o, h)
			}
		}
		for _, i := range []int{-1, len(b.Witnesses), math.MinInt, math.MaxInt} {
			if u, h := bearing.False(b, i); u != 0 || h != api.Missing {
				t.Errorf("False %d: %v, %v", i, u, h)
			}
			if o, h := bearing.Trust(b, i); !isZero(o) || h != api.Missing {
				t.Errorf("Trust %d: %v, %v", i, o, h)
			}
		}
	}
}

func TestWitnesses(t *testing.T) {
	heard := bookK()
	heard.Witnesses = append(heard.Witnesses, witnessL())
	adrift := clone(heard)
	adrift.False = 0
	for i := range adrift.Witnesses {
		adrift.Witnesses[i].Sure = true
	}
	// Each two of these four clash: from one place, by one compass, they took four bearings.
	apart := api.BearingChart{Wide: 2, High: 2, Compasses: []api.Reach{reach(0, 0)}}
	for i := range 4 {
		apart.Witnesses = append(apart.Witnesses, api.BearingWitness{At: at(-5, -5), Bearing: 2 * i})
	}
	empty := api.BearingChart{Wide: 2, High: 2, Compasses: []api.Reach{reach(0, 0)}}
	for i, x := range []struct {
		b           api.BearingChart
		sound       bool
		few, clash  []int
		asked, left int
		h           api.Hitch
	}{
		{bookK(), true, nil, nil, 0, 10, api.Smooth},
		{heard, false, []int{0}, []int{0, 3}, 0, 2, api.Smooth},
		{adrift, false, []int{0}, []int{0, 3}, 0, 0, api.Adrift},
		{apart, false, []int{0, 1, 2, 3}, []int{0}, 0, 0, api.Adrift},
		{empty, true, nil, nil, -1, 4, api.Smooth},
	} {
		if is, h := bearing.Sound(x.b); is != x.sound || h != api.Smooth {
			t.Errorf("%d: Sound: %v, %v", i, is, h)
		}
		if l, h := bearing.Fewest(x.b); !slices.Equal(l, x.few) || h != api.Smooth {
			t.Errorf("%d: Fewest: %v, %v", i, l, h)
		}
		if l, h := bearing.Clash(x.b); !slices.Equal(l, x.clash) || h != api.Smooth {
			t.Errorf("%d: Clash: %v, %v", i, l, h)
		}
		if w, n, h := bearing.Ask(x.b); w != x.asked || n != x.left || h != x.h {
			t.Errorf("%d: Ask: %v, %v, %v", i, w, n, h)
		}
	}
}

func TestWitnessesAsReckonedOtherwise(t *testing.T) {
	eachRandom(200, func(_ *rand.Rand, b api.BearingChart) {
		many := len(b.Witnesses)
		together := func(list []int) bool { return len(modelCases(only(b, list))) > 0 }
		few, clash := others(many, nil), []int(nil)
		for _, l := range model.Lists(many) {
			if together(others(many, l)) && model.CompareLists(l, few) < 0 {
				few = l
			}
			if !together(l) && (clash == nil || model.CompareLists(l, clash) < 0) {
				clash = l
			}
		}
		if l, h := bearing.Fewest(b); !slices.Equal(l, few) || h != api.Smooth {
			t.Errorf("Fewest(%v): %v, %v, want %v", b, l, h, few)
		}
		if l, h := bearing.Clash(b); !slices.Equal(l, clash) || h != api.Smooth {
			t.Errorf("Clash(%v): %v, %v, want %v", b, l, h, clash)
		}
		if is, h := bearing.Sound(b); is != (clash == nil) || h != api.Smooth {
			t.Errorf("Sound(%v): %v, %v", b, is, h)
		}
		cases := modelCases(b)
		asked, left := -1, len(cases)
		for i := range many {
			yes := 0
			for _, c := range cases {
				if slices.Contains(c.False, i) {
					yes++
				}
			}
			if n := max(yes, len(cases)-yes); n < left {
				asked, left = i, n
			}
		}
		if w, n, h := bearing.Ask(b); len(cases) > 0 && (w != asked || n != left || h != api.Smooth) {
			t.Errorf("Ask(%v): %d, %d, %v, want %d, %d", b, w, n, h, asked, left)
		}
	})
}

func TestHear(t *testing.T) {
	b := bookK()
	o, h := bearing.Hear(b, witnessL())
	want := bookK()
	want.Witnesses = append(want.Witnesses, witnessL())
	if !equal(o, want) || h != api.Smooth || mustCases(t, o) != 4 {
		t.Errorf("Hear: %v, %v", o, h)
	}
	strict := bookK()
	strict.False = 0
	full := bookK()
	full.Witnesses = make([]api.BearingWitness, 5)
	for i, x := range []struct {
		b    api.BearingChart
		w    api.BearingWitness
		want api.Hitch
	}{
		{b, api.BearingWitness{At: at(21, 0), Compass: 2}, api.Bounds},
		{b, api.BearingWitness{Bearing: 8}, api.Bounds},
		{b, api.BearingWitness{Compass: 2}, api.Missing},
		{strict, witnessL(), api.Adrift},
		{strict, api.BearingWitness{Compass: -1}, api.Missing},
		{full, api.BearingWitness{Bearing: 8}, api.Number},
		{api.BearingChart{}, witnessL(), api.Bounds},
	} {
		if o, h := bearing.Hear(x.b, x.w); !isZero(o) || h != x.want {
			t.Errorf("%d: %v, %v", i, o, h)
		}
	}
}

func TestTrust(t *testing.T) {
	o, h := bearing.Trust(bookK(), 0)
	want := bookK()
	want.Witnesses[0].Sure = true
	if !equal(o, want) || h != api.Smooth || mustCases(t, o) != 10 {
		t.Errorf("Trust: %v, %v", o, h)
	}
	if o, h := bearing.Trust(o, 0); !isZero(o) || h != api.Double {
		t.Errorf("Trust again: %v, %v", o, h)
	}
	heard, _ := bearing.Hear(want, witnessL())
	if o, h := bearing.Trust(heard, 3); !isZero(o) || h != api.Adrift {
		t.Errorf("Trust both who clash: %v, %v", o, h)
	}
	adrift := clone(heard)
	adrift.Witnesses[3].Sure = true
	if o, h := bearing.Trust(adrift, 0); !isZero(o) || h != api.Double {
		t.Errorf("Trust again, without a case: %v, %v", o, h)
	}
}

func TestSwing(t *testing.T) {
	strict := bookK()
	strict.False = 0
	for i, x := range []struct {
		b       api.BearingChart
		compass int
		x       api.Reach
		off     api.Reach
		h       api.Hitch
	}{
		{bookK(), 1, reach(0, 0), reach(0, 0), api.Smooth},
		{bookK(), 1, reach(-3, 3), reach(0, 1), api.Smooth},
		{bookK(), 1, reach(1, 3), reach(1, 1), api.Smooth},
		{bookK(), 0, reach(-3, 0), reach(0, 0), api.Smooth},
		{strict, 1, reach(1, 1), reach(1, 1), api.Smooth},
		{strict, 1, reach(0, 0), api.Reach{}, api.Adrift},
		{bookK(), 1, reach(2, 3), api.Reach{}, api.Adrift},
		{bookK(), 1, reach(-3, -1), api.Reach{}, api.Adrift},
		{bookK(), 1, reach(1, 0), api.Reach{}, api.Bounds},
		{bookK(), 1, reach(-4, 0), api.Reach{}, api.Bounds},
		{bookK(), 1, reach(0, 4), api.Reach{}, api.Bounds},
		{bookK(), 1, reach(math.MinInt, math.MaxInt), api.Reach{}, api.Bounds},
	} {
		o, h := bearing.Swing(x.b, x.compass, x.x)
		if h != x.h || h != api.Smooth && !isZero(o) {
			t.Errorf("%d: %v, %v", i, o, h)
			continue
		}
		if h == api.Smooth {
			want := clone(x.b)
			want.Compasses[x.compass] = x.off
			if !equal(o, want) {
				t.Errorf("%d: %v", i, o)
			}
		}
	}
	o, _ := bearing.Swing(bookK(), 1, reach(0, 0))
	if n := mustCases(t, o); n != 4 {
		t.Errorf("Cases of K, swung: %d", n)
	}
}

const textK = "chart 3 3 1\ncompass 0\ncompass 0:1\nwitness -1 0 e 0 maybe\nwitness 0 3 s 1 maybe\nwitness 2 -1 n 0 maybe\n"

func TestPrint(t *testing.T) {
	if s, h := bearing.Print(bookK()); s != textK || h != api.Smooth {
		t.Errorf("%q, %v", s, h)
	}
	b := api.BearingChart{Wide: 7, High: 2, False: 2, Compasses: []api.Reach{reach(-3, -1), reach(-2, -2)}}
	want := "chart 7 2 2\ncompass -3:-1\ncompass -2\n"
	for i, word := range []string{"n", "ne", "e", "se", "s", "sw", "w", "nw"} {
		c := clone(b)
		c.Witnesses = []api.BearingWitness{{At: at(-20, 20), Bearing: i, Compass: 1, Sure: true}}
		if s, h := bearing.Print(c); s != want+"witness -20 20 "+word+" 1 sure\n" || h != api.Smooth {
			t.Errorf("%q, %v", s, h)
		}
	}
	if s, h := bearing.Print(api.BearingChart{}); s != "" || h != api.Bounds {
		t.Errorf("%q, %v", s, h)
	}
}

func TestParse(t *testing.T) {
	for _, s := range []string{textK, strings.TrimSuffix(textK, "\n")} {
		if b, n, h := bearing.Parse(s); !equal(b, bookK()) || n != 0 || h != api.Smooth {
			t.Errorf("%v, %d, %v", b, n, h)
		}
	}
}

func TestParseWrongLines(t *testing.T) {
	const bare = "chart 2 2 0\ncompass 0\n"
	for s, line := range map[string]int{
		"": 0, "\n": 1, "\n" + bare: 1, " chart 2 2 0\n": 1, "chart": 1, "chart 2 2\n": 1, "chart 2 2 0 0\n": 1, "chart  2 2 0\n": 1, "chart 2 2 0 \n": 1,
		"chart 2 2 x\n": 1, "chart 2 2 00\n": 1, "chart 02 2 0\n": 1, "chart +2 2 0\n": 1, "chart 2 -0 0\n": 1, "chart 2 - 0\n": 1, "chart 2 --2 0\n": 1,
		"chart 2 2:3 0\n": 1, "chart 1234567890 2 0\n": 1, "Chart 2 2 0\n": 1, "chart 2\t2 0\n": 1, "chart 2 2 0\r\n": 1,
		"compass 0\n": 1, "witness 0 0 n 0 maybe\n": 1, bare + "chart 2 2 0\n": 3, bare + "\n": 3, bare + "\n\n": 3, bare + "boat 0\n": 3,
		bare + "compass\n": 3, bare + "compass 0 0\n": 3, bare + "compass 0:0\n": 3, bare + "compass 0:1:2\n": 3, bare + "compass :1\n": 3, bare + "compass 1:\n": 3, bare + "compass x:1\n": 3, bare + "compass 0,1\n": 3,
		bare + "witness 0 0 n 0\n": 3, bare + "witness 0 0 n 0 maybe maybe\n": 3, bare + "witness 0 0 0 0 maybe\n": 3, bare + "witness 0 0 N 0 maybe\n": 3, bare + "witness 0 0 n 0 yes\n": 3,
		bare + "witness 0:1 0 n 0 maybe\n": 3, bare + "witness 0 x n 0 maybe\n": 3, bare + "witness 0 0 n x maybe\n": 3, bare + "witness 0 0 n 0 maybe\ncompass 0\n": 4,
		bare + "witness 0 0 n 0 maybe\n\nwitness\n": 4, "chart 9 2 0\ncompass 0\nwitness\n": 3, strings.Repeat("\n", api.MaxText): 1,
	} {
		if b, n, h := bearing.Parse(s); !isZero(b) || n != line || h != api.Shape {
			t.Errorf("%.60q: %v, %d, %v, want line %d", s, b, n, h, line)
		}
	}
}

func TestParseHitches(t *testing.T) {
	long := "chart 2 2 0\n" + strings.Repeat("compass 0\n", 4000)
	for s, want := range map[string]api.Hitch{
		"chart 2 2 0\n":                                api.Number,
		"chart 2 2 0\nwitness 0 0 n 0 maybe\n":         api.Number,
		"chart 8 2 0\ncompass 0\n":                     api.Bounds,
		"chart 999999999 -999999999 0\n":               api.Bounds,
		"chart 2 2 0\ncompass 1:0\n":                   api.Bounds,
		"chart 2 2 0\ncompass 3:4\n":                   api.Bounds,
		"chart 2 2 0\ncompass 0\nwitness 0 0 n 1 sure": api.Missing,
		long[:api.MaxText-8]:                           api.Number,
		strings.Repeat("c", api.MaxText+1):             api.Number,
	} {
		if b, n, h := bearing.Parse(s); !isZero(b) || n != 0 || h != want {
			t.Errorf("%.60q: %v, %d, %v", s, b, n, h)
		}
	}
	// A text as long as the limit is read: its first line is wrong.
	if b, n, h := bearing.Parse(strings.Repeat("c", api.MaxText)); !isZero(b) || n != 1 || h != api.Shape {
		t.Errorf("%v, %d, %v", b, n, h)
	}
}
