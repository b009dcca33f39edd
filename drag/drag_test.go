package drag_test

import (
	"math"
	"math/rand"
	"slices"
	"strings"
	"testing"

	"lagan/api"
	"lagan/drag"
	"lagan/model"
)

// Tests of P2.1 to P2.5: what the functions return.

func TestCheckBook(t *testing.T) {
	for name, x := range map[string]struct {
		change func(b *api.DragBook)
		want   api.Hitch
	}{
		"as it is":                {func(b *api.DragBook) {}, api.Smooth},
		"least sides":             {func(b *api.DragBook) { *b = api.DragBook{Rows: 1, Lanes: 1, Ground: []string{"s"}} }, api.Smooth},
		"greatest sides":          {func(b *api.DragBook) { b.Rows, b.Lanes, b.Ground = 5, 5, slices.Repeat([]string{"smsms"}, 5) }, api.Smooth},
		"no rows":                 {func(b *api.DragBook) { b.Rows, b.Ground = 0, nil }, api.Bounds},
		"too many rows":           {func(b *api.DragBook) { b.Rows, b.Ground = 6, slices.Repeat([]string{"sss"}, 6) }, api.Bounds},
		"no lanes":                {func(b *api.DragBook) { b.Lanes, b.Ground = 0, []string{"", "", ""} }, api.Bounds},
		"too many lanes":          {func(b *api.DragBook) { b.Lanes, b.Ground = 6, slices.Repeat([]string{"ssssss"}, 3) }, api.Bounds},
		"far below":               {func(b *api.DragBook) { b.Rows = math.MinInt }, api.Bounds},
		"far above":               {func(b *api.DragBook) { b.Lanes = math.MaxInt }, api.Bounds},
		"slack below":             {func(b *api.DragBook) { b.Slack = -1 }, api.Bounds},
		"slack least":             {func(b *api.DragBook) { b.Slack = 0 }, api.Smooth},
		"slack most":              {func(b *api.DragBook) { b.Slack = 2 }, api.Smooth},
		"slack above":             {func(b *api.DragBook) { b.Slack = 3 }, api.Bounds},
		"no ground":               {func(b *api.DragBook) { b.Ground = nil }, api.Number},
		"a row too few":           {func(b *api.DragBook) { b.Ground = b.Ground[:2] }, api.Number},
		"a row too many":          {func(b *api.DragBook) { b.Ground = append(b.Ground, "sss") }, api.Number},
		"a letter too few":        {func(b *api.DragBook) { b.Ground[1] = "sm" }, api.Shape},
		"a letter too many":       {func(b *api.DragBook) { b.Ground[1] = "smms" }, api.Shape},
		"another byte first":      {func(b *api.DragBook) { b.Ground[1] = "Sss" }, api.Shape},
		"another byte within":     {func(b *api.DragBook) { b.Ground[1] = "s s" }, api.Shape},
		"another byte last":       {func(b *api.DragBook) { b.Ground[2] = "ss\xff" }, api.Shape},
		"two are unknown":         {func(b *api.DragBook) { b.Ground[2] = "??s" }, api.Smooth},
		"three are unknown":       {func(b *api.DragBook) { b.Ground[0], b.Ground[1] = "?ss", "ss?" }, api.Number},
		"no rock":                 {func(b *api.DragBook) { b.Rocks = nil }, api.Smooth},
		"three rocks":             {func(b *api.DragBook) { b.Rocks = []api.DragSquare{sq(0, 2), sq(1, 0), sq(1, 1)} }, api.Smooth},
		"four rocks":              {func(b *api.DragBook) { b.Rocks = []api.DragSquare{sq(0, 0), sq(0, 1), sq(0, 2), sq(1, 0)} }, api.Number},
		"a rock north":            {func(b *api.DragBook) { b.Rocks[0] = sq(-1, 0) }, api.Missing},
		"a rock behind the rows":  {func(b *api.DragBook) { b.Rocks[0] = sq(3, 0) }, api.Missing},
		"a rock before the lanes": {func(b *api.DragBook) { b.Rocks[0] = sq(0, math.MinInt) }, api.Missing},
		"a rock behind the lanes": {func(b *api.DragBook) { b.Rocks[0] = sq(0, 3) }, api.Missing},
		"a rock twice":            {func(b *api.DragBook) { b.Rocks = []api.DragSquare{sq(1, 1), sq(1, 1)} }, api.Crossed},
		"rocks of rows crossed":   {func(b *api.DragBook) { b.Rocks = []api.DragSquare{sq(1, 0), sq(0, 2)} }, api.Crossed},
		"rocks of lanes crossed":  {func(b *api.DragBook) { b.Rocks = []api.DragSquare{sq(1, 2), sq(1, 1)} }, api.Crossed},
		"no line":                 {func(b *api.DragBook) { b.Lines = nil }, api.Smooth},
		"three lines":             {func(b *api.DragBook) { b.Lines = make([]api.DragLine, 3) }, api.Smooth},
		"four lines":              {func(b *api.DragBook) { b.Lines = make([]api.DragLine, 4) }, api.Number},
		"rows below":              {func(b *api.DragBook) { b.Lines[0].Rows = reach(-1, 1) }, api.Missing},
		"rows above":              {func(b *api.DragBook) { b.Lines[0].Rows = reach(0, 3) }, api.Missing},
		"rows turned":             {func(b *api.DragBook) { b.Lines[0].Rows = reach(2, 1) }, api.Missing},
		"all rows and lanes":      {func(b *api.DragBook) { b.Lines[0].Rows, b.Lines[0].Lanes = reach(0, 2), reach(0, 2) }, api.Smooth},
		"lanes below":             {func(b *api.DragBook) { b.Lines[1].Lanes = reach(-1, 0) }, api.Missing},
		"lanes above":             {func(b *api.DragBook) { b.Lines[1].Lanes = reach(2, 3) }, api.Missing},
		"lanes turned":            {func(b *api.DragBook) { b.Lines[1].Lanes = reach(1, 0) }, api.Missing},
		"least tide":              {func(b *api.DragBook) { b.Lines[0].Tide = reach(-4, -2) }, api.Smooth},
		"greatest tide":           {func(b *api.DragBook) { b.Lines[0].Tide = reach(2, 4) }, api.Smooth},
		"tide below":              {func(b *api.DragBook) { b.Lines[0].Tide = reach(-5, -4) }, api.Bounds},
		"tide above":              {func(b *api.DragBook) { b.Lines[0].Tide = reach(4, 5) }, api.Bounds},
		"tide turned":             {func(b *api.DragBook) { b.Lines[0].Tide = reach(1, 0) }, api.Bounds},
		"tide of four numbers":    {func(b *api.DragBook) { b.Lines[1].Tide = reach(-1, 2) }, api.Bounds},
		"any tide":                {func(b *api.DragBook) { b.Lines[1].Tide = reach(math.MinInt, math.MaxInt) }, api.Bounds},
		"three leads":             {func(b *api.DragBook) { b.Leads = make([]api.DragLead, 3) }, api.Smooth},
		"four leads":              {func(b *api.DragBook) { b.Leads = make([]api.DragLead, 4) }, api.Number},
		"a lead off the chart":    {func(b *api.DragBook) { b.Leads = []api.DragLead{{}, {At: sq(0, 3)}} }, api.Missing},
		"a lead before the chart": {func(b *api.DragBook) { b.Leads = []api.DragLead{{At: sq(-1, 0)}} }, api.Missing},
		"a lead of iron":          {func(b *api.DragBook) { b.Leads = []api.DragLead{{At: sq(2, 2), Brought: api.DragIron}} }, api.Smooth},
		"a kind above":            {func(b *api.DragBook) { b.Leads = []api.DragLead{{Brought: 3}} }, api.Bounds},
		"a kind below":            {func(b *api.DragBook) { b.Leads = []api.DragLead{{Brought: -1}} }, api.Bounds},
		"size, then ground":       {func(b *api.DragBook) { b.Slack, b.Ground = 3, nil }, api.Bounds},
		"many rows, then which":   {func(b *api.DragBook) { b.Ground = []string{"x", "x"} }, api.Number},
		"ground, then unknown":    {func(b *api.DragBook) { b.Ground[0], b.Ground[2] = "???", "x" }, api.Shape},
		"unknown, then rocks":     {func(b *api.DragBook) { b.Ground[0], b.Rocks = "???", make([]api.DragSquare, 4) }, api.Number},
		"unknown, then a rock":    {func(b *api.DragBook) { b.Ground[0], b.Rocks[0] = "???", sq(9, 9) }, api.Number},
		"many rocks, then which":  {func(b *api.DragBook) { b.Rocks = []api.DragSquare{sq(9, 9), {}, {}, {}} }, api.Number},
		"a rock, then its order":  {func(b *api.DragBook) { b.Rocks = []api.DragSquare{sq(1, 0), sq(0, 3)} }, api.Missing},
		"rock by rock":            {func(b *api.DragBook) { b.Rocks = []api.DragSquare{sq(1, 0), sq(0, 0), sq(9, 9)} }, api.Crossed},
		"rocks, then lines":       {func(b *api.DragBook) { b.Rocks[0], b.Lines = sq(9, 9), make([]api.DragLine, 4) }, api.Missing},
		"many lines, then which":  {func(b *api.DragBook) { b.Lines = []api.DragLine{{Rows: reach(9, 9)}, {}, {}, {}} }, api.Number},
		"rows, then tide":         {func(b *api.DragBook) { b.Lines[0].Rows, b.Lines[0].Tide = reach(0, 3), reach(9, 9) }, api.Missing},
		"line by line":            {func(b *api.DragBook) { b.Lines[0].Tide, b.Lines[1].Rows = reach(9, 9), reach(0, 3) }, api.Bounds},
		"lines, then leads":       {func(b *api.DragBook) { b.Lines[0].Tide, b.Leads = reach(9, 9), make([]api.DragLead, 4) }, api.Bounds},
		"many leads, then which":  {func(b *api.DragBook) { b.Leads = []api.DragLead{{At: sq(9, 9)}, {}, {}, {}} }, api.Number},
		"a lead's square, kind":   {func(b *api.DragBook) { b.Leads = []api.DragLead{{At: sq(9, 9), Brought: 3}} }, api.Missing},
		"lead by lead":            {func(b *api.DragBook) { b.Leads = []api.DragLead{{Brought: 3}, {At: sq(9, 9)}} }, api.Bounds},
	} {
		b := bookD()
		x.change(&b)
		if h := drag.CheckBook(b); h != x.want {
			t.Errorf("%s: %v, want %v", name, h, x.want)
		}
	}
}

func TestSwept(t *testing.T) {
	for i, x := range []struct {
		line, shift int
		want        []api.DragSquare
		h           api.Hitch
	}{
		{0, 0, []api.DragSquare{sq(0, 1), sq(0, 2), sq(1, 1), sq(1, 2)}, api.Smooth},
		{0, 1, []api.DragSquare{sq(1, 1), sq(1, 2), sq(2, 1), sq(2, 2)}, api.Smooth},
		{0, 2, []api.DragSquare{sq(2, 1), sq(2, 2)}, api.Smooth},
		{0, 3, nil, api.Smooth},
		{0, 4, nil, api.Smooth},
		{0, -1, []api.DragSquare{sq(0, 1), sq(0, 2)}, api.Smooth},
		{0, -2, nil, api.Smooth},
		{0, -4, nil, api.Smooth},
		{1, 0, []api.DragSquare{sq(1, 0), sq(2, 0)}, api.Smooth},
		{1, -1, []api.DragSquare{sq(0, 0), sq(1, 0)}, api.Smooth},
		{0, 5, nil, api.Bounds},
		{0, -5, nil, api.Bounds},
		{0, math.MinInt, nil, api.Bounds},
		{1, math.MaxInt, nil, api.Bounds},
		{2, 0, nil, api.Missing},
		{-1, 5, nil, api.Missing},
	} {
		if l, h := drag.Swept(bookD(), x.line, x.shift); !slices.Equal(l, x.want) || h != x.h {
			t.Errorf("%d: %v, %v", i, l, h)
		}
	}
	// What a line swept does not depend on whether there is a case.
	if l, h := drag.Swept(adriftBook(), 1, 0); len(l) != 2 || h != api.Smooth {
		t.Errorf("no case: %v, %v", l, h)
	}
}

func TestSweptAsReckonedOtherwise(t *testing.T) {
	eachRandom(100, func(_ *rand.Rand, b api.DragBook) {
		for i, line := range b.Lines {
			for shift := -4; shift <= 4; shift++ {
				if l, h := drag.Swept(b, i, shift); !slices.Equal(l, modelSwept(b, line, shift)) || h != api.Smooth {
					t.Errorf("Swept(%v, %d, %d): %v, %v", b, i, shift, l, h)
				}
			}
		}
	})
}

func TestIsCase(t *testing.T) {
	two := bookE()
	two.Slack = 2
	two.Lines[1].Lanes = reach(0, 1)
	rockOnMud := bookD()
	rockOnMud.Ground[0], rockOnMud.Lines = "mss", []api.DragLine{{}}
	sand := bookD()
	sand.Lines = []api.DragLine{{Rows: reach(1, 1), Lanes: reach(0, 2), Tide: reach(-1, 1)}, {Rows: reach(1, 1), Lanes: reach(1, 1), Tide: reach(2, 4)}}
	for i, x := range []struct {
		b    api.DragBook
		c    api.DragCase
		want bool
		h    api.Hitch
	}{
		{bookD(), api.DragCase{Wreck: sq(1, 1), Shifts: []int{1, 0}, Mud: []int{0}}, true, api.Smooth},
		{bookD(), api.DragCase{Wreck: sq(1, 1), Shifts: []int{1, 0}}, true, api.Smooth},
		{bookD(), api.DragCase{Wreck: sq(1, 1), Shifts: []int{1, 0}, Slack: []int{1}, Mud: []int{0}}, false, api.Smooth},
		{bookD(), api.DragCase{Wreck: sq(1, 1), Shifts: []int{0, 0}}, true, api.Smooth},
		{bookD(), api.DragCase{Wreck: sq(0, 1), Shifts: []int{1, 0}}, false, api.Smooth},
		{bookD(), api.DragCase{Wreck: sq(2, 1), Shifts: []int{2, 0}}, false, api.Smooth},
		{bookD(), api.DragCase{Wreck: sq(1, 1), Shifts: []int{-4, 4}}, false, api.Smooth},
		{bookD(), api.DragCase{Wreck: sq(1, 0), Shifts: []int{0, 0}}, false, api.Smooth},
		{bookD(), api.DragCase{Wreck: sq(0, 0), Shifts: []int{0, 0}}, false, api.Smooth},
		// A line that touched is not slack; a slack one misses the wreck in the mud.
		{bookD(), api.DragCase{Wreck: sq(1, 1), Shifts: []int{0, 0}, Slack: []int{0}}, false, api.Smooth},
		{bookE(), api.DragCase{Wreck: sq(1, 1), Shifts: []int{0, 0, 0}, Slack: []int{2}}, true, api.Smooth},
		{bookE(), api.DragCase{Wreck: sq(1, 1), Shifts: []int{0, 0, 0}}, false, api.Smooth},
		{bookE(), api.DragCase{Wreck: sq(0, 1), Shifts: []int{0, 0, 0}, Slack: []int{2}}, true, api.Smooth},
		{bookE(), api.DragCase{Wreck: sq(0, 1), Shifts: []int{0, 0, 0}}, true, api.Smooth},
		{two, api.DragCase{Wreck: sq(1, 1), Shifts: []int{0, 0, 0}, Slack: []int{1, 2}}, true, api.Smooth},
		{two, api.DragCase{Wreck: sq(1, 1), Shifts: []int{0, 0, 0}, Slack: []int{2}}, false, api.Smooth},
		// A slack line misses a rock in the mud, too.
		{rockOnMud, api.DragCase{Wreck: sq(1, 1), Shifts: []int{0}, Slack: []int{0}}, true, api.Smooth},
		{rockOnMud, api.DragCase{Wreck: sq(1, 1), Shifts: []int{0}}, false, api.Smooth},
		// Whether a line can be slack depends on where the tide took it, and on what the unknown ground is.
		{sand, api.DragCase{Wreck: sq(2, 2), Shifts: []int{1, 2}, Slack: []int{0}, Mud: []int{0}}, true, api.Smooth},
		{sand, api.DragCase{Wreck: sq(2, 2), Shifts: []int{1, 2}, Slack: []int{0}}, false, api.Smooth},
		{sand, api.DragCase{Wreck: sq(2, 2), Shifts: []int{-1, 2}, Slack: []int{0}, Mud: []int{0}}, false, api.Smooth},
		{sand, api.DragCase{Wreck: sq(2, 2), Shifts: []int{0, 2}, Slack: []int{1}, Mud: []int{0}}, false, api.Smooth},
		{sand, api.DragCase{Wreck: sq(2, 2), Shifts: []int{0, 2}, Mud: []int{0}}, true, api.Smooth},
		{bookD(), api.DragCase{Wreck: sq(3, 0)}, false, api.Missing},
		{bookD(), api.DragCase{Wreck: sq(0, -1)}, false, api.Missing},
		{bookD(), api.DragCase{Wreck: sq(math.MinInt, math.MaxInt)}, false, api.Missing},
		{bookD(), api.DragCase{Shifts: []int{9}, Slack: []int{9}}, false, api.Number},
		{bookD(), api.DragCase{Shifts: []int{0, 0, 0}}, false, api.Number},
		{bookD(), api.DragCase{Shifts: []int{0, 5}, Slack: []int{9}}, false, api.Bounds},
		{bookD(), api.DragCase{Shifts: []int{-5, 0}}, false, api.Bounds},
		{bookD(), api.DragCase{Shifts: []int{0, 0}, Slack: []int{2}, Mud: []int{0, 0}}, false, api.Missing},
		{bookD(), api.DragCase{Shifts: []int{0, 0}, Slack: []int{-1}}, false, api.Missing},
		{bookD(), api.DragCase{Shifts: []int{0, 0}, Slack: []int{1, 1}, Mud: []int{9}}, false, api.Crossed},
		{bookD(), api.DragCase{Shifts: []int{0, 0}, Slack: []int{1, 0, 9}}, false, api.Crossed},
		{bookD(), api.DragCase{Shifts: []int{0, 0}, Slack: []int{1, 9, 0}}, false, api.Missing},
		{bookD(), api.DragCase{Shifts: []int{0, 0}, Mud: []int{1}}, false, api.Missing},
		{bookD(), api.DragCase{Shifts: []int{0, 0}, Mud: []int{math.MinInt}}, false, api.Missing},
		{bookD(), api.DragCase{Shifts: []int{0, 0}, Mud: []int{0, 0}}, false, api.Crossed},
		{api.DragBook{}, api.DragCase{Wreck: sq(-1, 0)}, false, api.Bounds},
	} {
		if is, h := drag.IsCase(x.b, x.c); is != x.want || h != x.h {
			t.Errorf("%d: %v, %v", i, is, h)
		}
	}
}

func TestIsCaseAsReckonedOtherwise(t *testing.T) {
	eachRandom(60, func(_ *rand.Rand, b api.DragBook) {
		b.Lines = b.Lines[:min(2, len(b.Lines))]
		for _, c := range modelAll(b, 1) {
			if is, h := drag.IsCase(b, c); is != modelIs(b, c) || h != api.Smooth {
				t.Fatalf("IsCase(%v, %v): %v, %v", b, c, is, h)
			}
		}
	})
}

func TestCasesOfD(t *testing.T) {
	b := bookD()
	if n := mustCases(t, b); n != 16 {
		t.Errorf("Cases: %d", n)
	}
	want := []api.DragSquare{sq(0, 1), sq(0, 2), sq(1, 1), sq(1, 2), sq(2, 1), sq(2, 2)}
	if l := mustWhere(t, b); !slices.Equal(l, want) {
		t.Errorf("Where: %v", l)
	}
	for at, want := range map[api.DragSquare]api.Known{sq(1, 1): api.Unsure, sq(1, 0): api.Never, sq(0, 0): api.Never} {
		if u, h := drag.Lies(b, at); u != want || h != api.Smooth {
			t.Errorf("Lies %v: %v, %v", at, u, h)
		}
	}
	for i, want := range []api.Known{api.Never, api.Never, api.Unsure} {
		if u, h := drag.Missed(bookE(), i); u != want || h != api.Smooth {
			t.Errorf("Missed %d: %v, %v", i, u, h)
		}
	}
	if l, h := drag.Shifts(b, 0); !slices.Equal(l, []int{0, 1}) || h != api.Smooth {
		t.Errorf("Shifts: %v, %v", l, h)
	}
	for at, want := range map[api.DragSquare]api.Known{sq(2, 1): api.Unsure, sq(1, 1): api.Surely, sq(2, 2): api.Never, sq(0, 0): api.Never} {
		if u, h := drag.Muddy(b, at); u != want || h != api.Smooth {
			t.Errorf("Muddy %v: %v, %v", at, u, h)
		}
	}
	if l, h := drag.Unswept(b); !slices.Equal(l, []api.DragSquare{sq(0, 0)}) || h != api.Smooth {
		t.Errorf("Unswept: %v, %v", l, h)
	}
	e := bookE()
	if n := mustCases(t, e); n != 24 {
		t.Errorf("Cases of E: %d", n)
	}
	b.Leads = []api.DragLead{{At: sq(2, 1), Brought: api.DragIron}}
	if n := mustCases(t, b); n != 2 {
		t.Errorf("Cases with iron: %d", n)
	}
	if u, h := drag.Lies(b, sq(2, 1)); u != api.Surely || h != api.Smooth {
		t.Errorf("Lies with iron: %v, %v", u, h)
	}
	if l, h := drag.Shifts(b, 0); !slices.Equal(l, []int{1}) || h != api.Smooth {
		t.Errorf("Shifts with iron: %v, %v", l, h)
	}
}

func TestMissedSurely(t *testing.T) {
	b := bookE()
	b.Leads = []api.DragLead{{At: sq(1, 2), Brought: api.DragIron}}
	if u, h := drag.Missed(b, 2); u != api.Surely || h != api.Smooth {
		t.Errorf("Missed: %v, %v", u, h)
	}
}

func TestCasesAtTheLimits(t *testing.T) {
	b := api.DragBook{Rows: 5, Lanes: 5, Slack: 2, Ground: []string{"mmmmm", "mmmmm", "mm??m", "mmmmm", "mmmmm"}}
	if n := mustCases(t, b); n != 25*4 {
		t.Errorf("no lines: %d", n)
	}
	for i := range 3 {
		b.Lines = append(b.Lines, api.DragLine{Rows: reach(i, i+1), Lanes: reach(1, 3), Tide: reach(-1, 1)})
	}
	if n := mustCases(t, b); n != len(modelCases(b)) || n < 1000 {
		t.Errorf("three lines: %d, want %d", n, len(modelCases(b)))
	}
	// The least and the greatest tides take these lines off the chart.
	b.Slack = 1
	b.Lines[0].Tide, b.Lines[1].Tide = reach(-4, -2), reach(2, 4)
	b.Rocks = []api.DragSquare{sq(0, 4), sq(3, 1), sq(4, 4)}
	if n := mustCases(t, b); n != len(modelCases(b)) || n == 0 {
		t.Errorf("tides: %d, want %d", n, len(modelCases(b)))
	}
}

func TestCasesAsReckonedOtherwise(t *testing.T) {
	adrift := 0
	eachRandom(200, func(_ *rand.Rand, b api.DragBook) {
		cases := modelCases(b)
		if n := mustCases(t, b); n != len(cases) {
			t.Fatalf("Cases(%v): %d, want %d", b, n, len(cases))
		}
		if len(cases) == 0 {
			adrift++
			checkAdrift(t, b)
			return
		}
		checkSquares(t, b, cases)
		checkLines(t, b, cases)
	})
	if adrift == 0 || adrift == 200 {
		t.Errorf("%d books of 200 had no case", adrift)
	}
}

// checkAdrift checks what is told of a book that has no case.
func checkAdrift(t *testing.T, b api.DragBook) {
	t.Helper()
	if l, h := drag.Where(b); l != nil || h != api.Adrift {
		t.Errorf("Where(%v): %v, %v", b, l, h)
	}
	if u, h := drag.Lies(b, sq(0, 0)); u != 0 || h != api.Adrift {
		t.Errorf("Lies(%v): %v, %v", b, u, h)
	}
	if u, h := drag.Muddy(b, sq(0, 0)); u != 0 || h != api.Adrift {
		t.Errorf("Muddy(%v): %v, %v", b, u, h)
	}
	if l, h := drag.Unswept(b); l != nil || h != api.Adrift {
		t.Errorf("Unswept(%v): %v, %v", b, l, h)
	}
	for i := range b.Lines {
		if u, h := drag.Missed(b, i); u != 0 || h != api.Adrift {
			t.Errorf("Missed(%v): %v, %v", b, u, h)
		}
		if l, h := drag.Shifts(b, i); l != nil || h != api.Adrift {
			t.Errorf("Shifts(%v): %v, %v", b, l, h)
		}
	}
	if l, is, h := drag.Fewest(b, 1, 1); l != nil || is || h != api.Adrift {
		t.Errorf("Fewest(%v): %v, %v, %v", b, l, is, h)
	}
	if s, n, is, h := drag.Next(b, 1, 1); s != sq(0, 0) || n != 0 || is || h != api.Adrift {
		t.Errorf("Next(%v): %v, %v, %v, %v", b, s, n, is, h)
	}
}

// checkSquares checks what is told of the squares of a book.
func checkSquares(t *testing.T, b api.DragBook, cases []api.DragCase) {
	t.Helper()
	var where, unswept []api.DragSquare
	for _, s := range squares(b) {
		lies := model.Known(cases, func(c api.DragCase) bool { return c.Wreck == s })
		if u, h := drag.Lies(b, s); u != lies || h != api.Smooth {
			t.Errorf("Lies(%v, %v): %v, %v", b, s, u, h)
		}
		if lies != api.Never {
			where = append(where, s)
		}
		muddy := model.Known(cases, func(c api.DragCase) bool { return modelMud(b, c.Mud, s) })
		if u, h := drag.Muddy(b, s); u != muddy || h != api.Smooth {
			t.Errorf("Muddy(%v, %v): %v, %v", b, s, u, h)
		}
		swept := model.Known(cases, func(c api.DragCase) bool {
			for i, l := range b.Lines {
				if slices.Contains(modelSwept(b, l, c.Shifts[i]), s) {
					return true
				}
			}
			return false
		})
		if swept == api.Never {
			unswept = append(unswept, s)
		}
	}
	if l := mustWhere(t, b); !slices.Equal(l, where) {
		t.Errorf("Where(%v): %v, want %v", b, l, where)
	}
	if l, h := drag.Unswept(b); !slices.Equal(l, unswept) || h != api.Smooth {
		t.Errorf("Unswept(%v): %v, %v, want %v", b, l, h, unswept)
	}
}

// checkLines checks what is told of the lines of a book.
func checkLines(t *testing.T, b api.DragBook, cases []api.DragCase) {
	t.Helper()
	for i := range b.Lines {
		var shifts []int
		for shift := -4; shift <= 4; shift++ {
			if slices.ContainsFunc(cases, func(c api.DragCase) bool { return c.Shifts[i] == shift }) {
				shifts = append(shifts, shift)
			}
		}
		if l, h := drag.Shifts(b, i); !slices.Equal(l, shifts) || h != api.Smooth {
			t.Errorf("Shifts(%v, %d): %v, %v, want %v", b, i, l, h, shifts)
		}
		missed := model.Known(cases, func(c api.DragCase) bool { return slices.Contains(c.Slack, i) })
		if u, h := drag.Missed(b, i); u != missed || h != api.Smooth {
			t.Errorf("Missed(%v, %d): %v, %v, want %v", b, i, u, h, missed)
		}
	}
}

func TestWhatIsNotThere(t *testing.T) {
	for _, b := range []api.DragBook{bookD(), adriftBook()} {
		for _, s := range []api.DragSquare{sq(-1, 0), sq(0, -1), sq(3, 0), sq(0, 3), sq(math.MaxInt, math.MinInt)} {
			if u, h := drag.Lies(b, s); u != 0 || h != api.Missing {
				t.Errorf("Lies %v: %v, %v", s, u, h)
			}
			if u, h := drag.Muddy(b, s); u != 0 || h != api.Missing {
				t.Errorf("Muddy %v: %v, %v", s, u, h)
			}
		}
		for _, i := range []int{-1, 2, math.MinInt, math.MaxInt} {
			if l, h := drag.Swept(b, i, 9); l != nil || h != api.Missing {
				t.Errorf("Swept %d: %v, %v", i, l, h)
			}
			if u, h := drag.Missed(b, i); u != 0 || h != api.Missing {
				t.Errorf("Missed %d: %v, %v", i, u, h)
			}
			if l, h := drag.Shifts(b, i); l != nil || h != api.Missing {
				t.Errorf("Shifts %d: %v, %v", i, l, h)
			}
			if o, h := drag.Steady(b, i, reach(9, 0)); !isZero(o) || h != api.Missing {
				t.Errorf("Steady %d: %v, %v", i, o, h)
			}
		}
	}
}

func TestPlans(t *testing.T) {
	// Without lines she can lie anywhere.
	open := api.DragBook{Rows: 5, Lanes: 5, Ground: slices.Repeat([]string{"sssss"}, 5)}
	rocks := clone(open)
	rocks.Rocks = []api.DragSquare{sq(0, 2), sq(2, 2), sq(4, 2)}
	for i, x := range []struct {
		b           api.DragBook
		rows, lanes int
		few         []api.DragSquare
		found       bool
		at          api.DragSquare
		left        int
		more        bool
	}{
		{bookD(), 2, 2, []api.DragSquare{sq(0, 1), sq(1, 1)}, true, sq(0, 1), 4, true},
		{bookD(), 1, 2, []api.DragSquare{sq(0, 1), sq(1, 1), sq(2, 1)}, true, sq(0, 1), 4, true},
		{bookD(), 3, 1, []api.DragSquare{sq(0, 1), sq(0, 2)}, true, sq(0, 1), 3, true},
		{bookD(), 1, 1, nil, false, sq(0, 1), 5, true},
		{bookD(), 3, 3, []api.DragSquare{sq(0, 0)}, true, sq(0, 0), 6, false},
		{bookD(), 3, 2, []api.DragSquare{sq(0, 1)}, true, sq(0, 0), 6, false},
		{open, 5, 5, []api.DragSquare{sq(0, 0)}, true, sq(0, 0), 25, false},
		{open, 3, 3, []api.DragSquare{sq(0, 0), sq(0, 2), sq(2, 0), sq(2, 2)}, true, sq(0, 0), 16, true},
		{open, 2, 3, nil, false, sq(0, 0), 19, true},
		{open, 3, 4, []api.DragSquare{sq(0, 0), sq(0, 1), sq(2, 0), sq(2, 1)}, true, sq(0, 0), 13, true},
		{open, 5, 2, []api.DragSquare{sq(0, 0), sq(0, 1), sq(0, 3)}, true, sq(0, 0), 15, true},
		// No patch of three by three is without a rock.
		{rocks, 3, 3, []api.DragSquare{sq(0, 0), sq(0, 2), sq(2, 0), sq(2, 2)}, true, sq(0, 0), 22, false},
		{rocks, 5, 2, []api.DragSquare{sq(0, 0), sq(0, 1), sq(0, 3)}, true, sq(0, 0), 12, true},
		{rocks, 5, 1, nil, false, sq(0, 0), 17, true},
	} {
		if l, is, h := drag.Fewest(x.b, x.rows, x.lanes); !slices.Equal(l, x.few) || is != x.found || h != api.Smooth {
			t.Errorf("%d: Fewest: %v, %v, %v", i, l, is, h)
		}
		if s, n, is, h := drag.Next(x.b, x.rows, x.lanes); s != x.at || n != x.left || is != x.more || h != api.Smooth {
			t.Errorf("%d: Next: %v, %v, %v, %v", i, s, n, is, h)
		}
	}
	// Where there is no case, the bounds come first.
	for _, b := range []api.DragBook{bookD(), adriftBook()} {
		for _, size := range [][2]int{{0, 1}, {4, 1}, {1, 0}, {1, 4}, {-1, 9}, {math.MinInt, 1}, {1, math.MaxInt}} {
			if l, is, h := drag.Fewest(b, size[0], size[1]); l != nil || is || h != api.Bounds {
				t.Errorf("Fewest %v: %v, %v, %v", size, l, is, h)
			}
			if s, n, is, h := drag.Next(b, size[0], size[1]); s != sq(0, 0) || n != 0 || is || h != api.Bounds {
				t.Errorf("Next %v: %v, %v, %v, %v", size, s, n, is, h)
			}
		}
	}
}

func TestPlansAsReckonedOtherwise(t *testing.T) {
	eachRandom(200, func(r *rand.Rand, b api.DragBook) {
		where, h := drag.Where(b)
		if h != api.Smooth {
			return
		}
		rows, lanes := 1+r.Intn(b.Rows), 1+r.Intn(b.Lanes)
		patches := modelPatches(b, rows, lanes)
		var few []int
		for _, l := range model.Lists(len(patches)) {
			if len(l) <= 4 && modelFinds(patches, l, where) && (few == nil || model.CompareLists(l, few) < 0) {
				few = l
			}
		}
		var at []api.DragSquare
		for _, i := range few {
			at = append(at, patches[i][0])
		}
		if l, is, h := drag.Fewest(b, rows, lanes); !slices.Equal(l, at) || is != (few != nil) || h != api.Smooth {
			t.Errorf("Fewest(%v, %d, %d): %v, %v, %v, want %v", b, rows, lanes, l, is, h, at)
		}
		first, left := sq(0, 0), len(where)
		for _, p := range patches {
			if n := modelLeft(b, p, where); n < left {
				first, left = p[0], n
			}
		}
		if s, n, is, h := drag.Next(b, rows, lanes); s != first || n != left || is != (left < len(where)) || h != api.Smooth {
			t.Errorf("Next(%v, %d, %d): %v, %v, %v, %v, want %v, %v", b, rows, lanes, s, n, is, h, first, left)
		}
	})
}

// modelFinds tells whether the patches of a list have all of some squares among them.
func modelFinds(patches [][]api.DragSquare, list []int, where []api.DragSquare) bool {
	var all []api.DragSquare
	for _, i := range list {
		all = append(all, patches[i]...)
	}
	return model.Contains(all, where)
}

// modelLeft returns how many squares are left, at most, once it is known whether the wreck is in a patch: all of them, if a rock is in it.
func modelLeft(b api.DragBook, patch, where []api.DragSquare) int {
	in := 0
	for _, s := range patch {
		if slices.Contains(b.Rocks, s) {
			return len(where)
		}
		if slices.Contains(where, s) {
			in++
		}
	}
	return max(in, len(where)-in)
}

func TestClash(t *testing.T) {
	iron := func(row, lane int) api.DragLead { return api.DragLead{At: sq(row, lane), Brought: api.DragIron} }
	rock := bookD()
	rock.Lines = append(rock.Lines, api.DragLine{})
	// Each line clashes with the lead 1, and so does the lead 0: the first line decides.
	lead := bookD()
	lead.Leads = []api.DragLead{iron(1, 1), iron(1, 0)}
	allRocks := api.DragBook{Rows: 1, Lanes: 3, Ground: []string{"sss"}, Rocks: []api.DragSquare{sq(0, 0), sq(0, 1), sq(0, 2)}}
	swept := clone(allRocks)
	swept.Lines = []api.DragLine{{}}
	sand := bookD()
	sand.Leads = []api.DragLead{{At: sq(2, 1), Brought: api.DragSand}, {At: sq(2, 1), Brought: api.DragMud}, {At: sq(1, 1)}}
	lines := bookD()
	lines.Lines = []api.DragLine{
		{Rows: reach(0, 0), Lanes: reach(1, 1), Touched: true},
		{Rows: reach(0, 0), Lanes: reach(2, 2), Touched: true},
		{Rows: reach(2, 2), Lanes: reach(2, 2), Touched: true},
	}
	for i, x := range []struct {
		b            api.DragBook
		lines, leads []int
		h            api.Hitch
	}{
		{bookD(), nil, nil, api.Smooth},
		{bookE(), nil, nil, api.Smooth},
		{adriftBook(), nil, []int{0, 1}, api.Smooth},
		{rock, []int{2}, nil, api.Smooth},
		{lead, []int{0}, []int{1}, api.Smooth},
		{sand, nil, []int{2}, api.Smooth},
		{lines, []int{0, 1}, nil, api.Smooth},
		{allRocks, nil, nil, api.Lacking},
		{swept, nil, nil, api.Lacking},
	} {
		if l, k, h := drag.Clash(x.b); !slices.Equal(l, x.lines) || !slices.Equal(k, x.leads) || h != x.h {
			t.Errorf("%d: %v, %v, %v", i, l, k, h)
		}
	}
}

func TestClashAsReckonedOtherwise(t *testing.T) {
	clashed := 0
	eachRandom(120, func(_ *rand.Rand, b api.DragBook) {
		many := len(b.Lines)
		var few []int
		for _, l := range model.Lists(many + len(b.Leads)) {
			if (few == nil || model.CompareLists(l, few) < 0) && len(modelCases(only(b, l))) == 0 {
				few = l
			}
		}
		var lines, leads []int
		for _, i := range few {
			if i < many {
				lines = append(lines, i)
			} else {
				leads = append(leads, i-many)
			}
		}
		if few != nil {
			clashed++
		}
		if l, k, h := drag.Clash(b); !slices.Equal(l, lines) || !slices.Equal(k, leads) || h != api.Smooth {
			t.Errorf("Clash(%v): %v, %v, %v, want %v, %v", b, l, k, h, lines, leads)
		}
	})
	if clashed < 10 {
		t.Errorf("%d books clashed", clashed)
	}
}

func TestDrag(t *testing.T) {
	if o, h := drag.Drag(bookD(), freeLine()); !equal(o, bookE()) || h != api.Smooth {
		t.Errorf("%v, %v", o, h)
	}
	full := bookD()
	full.Lines = make([]api.DragLine, 3)
	for i, x := range []struct {
		b    api.DragBook
		l    api.DragLine
		want api.Hitch
	}{
		{bookD(), api.DragLine{Rows: reach(0, 3), Tide: reach(5, 5)}, api.Missing},
		{bookD(), api.DragLine{Lanes: reach(1, 0)}, api.Missing},
		{bookD(), api.DragLine{Tide: reach(-5, -4)}, api.Bounds},
		{bookD(), api.DragLine{Tide: reach(-1, 2)}, api.Bounds},
		{bookD(), api.DragLine{}, api.Adrift},
		{bookD(), api.DragLine{Rows: reach(1, 1), Touched: true}, api.Adrift},
		{adriftBook(), freeLine(), api.Adrift},
		{full, api.DragLine{Rows: reach(9, 9)}, api.Number},
		{api.DragBook{}, freeLine(), api.Bounds},
	} {
		if o, h := drag.Drag(x.b, x.l); !isZero(o) || h != x.want {
			t.Errorf("%d: %v, %v", i, o, h)
		}
	}
}

func TestSound(t *testing.T) {
	l := api.DragLead{At: sq(2, 1), Brought: api.DragMud}
	want := bookD()
	want.Leads = []api.DragLead{l}
	o, h := drag.Sound(bookD(), l)
	if !equal(o, want) || h != api.Smooth || mustCases(t, o) != 7 {
		t.Errorf("%v, %v", o, h)
	}
	want.Leads = append(want.Leads, api.DragLead{At: sq(0, 0)})
	if o, h := drag.Sound(o, api.DragLead{At: sq(0, 0)}); !equal(o, want) || h != api.Smooth {
		t.Errorf("%v, %v", o, h)
	}
	full := bookD()
	full.Leads = make([]api.DragLead, 3)
	for i, x := range []struct {
		b    api.DragBook
		l    api.DragLead
		want api.Hitch
	}{
		{bookD(), api.DragLead{At: sq(1, 3), Brought: 3}, api.Missing},
		{bookD(), api.DragLead{Brought: 3}, api.Bounds},
		{bookD(), api.DragLead{Brought: -1}, api.Bounds},
		{bookD(), api.DragLead{Brought: api.DragIron}, api.Adrift},
		{bookD(), api.DragLead{At: sq(1, 0), Brought: api.DragIron}, api.Adrift},
		{bookD(), api.DragLead{At: sq(1, 1), Brought: api.DragSand}, api.Adrift},
		{bookD(), api.DragLead{At: sq(0, 0), Brought: api.DragMud}, api.Adrift},
		{adriftBook(), api.DragLead{}, api.Adrift},
		{full, api.DragLead{At: sq(9, 9)}, api.Number},
		{api.DragBook{}, l, api.Bounds},
	} {
		if o, h := drag.Sound(x.b, x.l); !isZero(o) || h != x.want {
			t.Errorf("%d: %v, %v", i, o, h)
		}
	}
}

func TestSteady(t *testing.T) {
	iron := bookD()
	iron.Leads = []api.DragLead{{At: sq(2, 1), Brought: api.DragIron}}
	for i, x := range []struct {
		b    api.DragBook
		line int
		x    api.Reach
		tide api.Reach
		h    api.Hitch
	}{
		{bookD(), 0, reach(0, 0), reach(0, 0), api.Smooth},
		{bookD(), 0, reach(-4, 4), reach(0, 1), api.Smooth},
		{bookD(), 0, reach(1, 4), reach(1, 1), api.Smooth},
		{bookD(), 1, reach(-4, 0), reach(0, 0), api.Smooth},
		{iron, 0, reach(1, 1), reach(1, 1), api.Smooth},
		{iron, 0, reach(0, 0), api.Reach{}, api.Adrift},
		{bookD(), 0, reach(2, 4), api.Reach{}, api.Adrift},
		{bookD(), 0, reach(-4, -1), api.Reach{}, api.Adrift},
		{bookD(), 0, reach(1, 0), api.Reach{}, api.Bounds},
		{bookD(), 0, reach(-5, 0), api.Reach{}, api.Bounds},
		{bookD(), 0, reach(0, 5), api.Reach{}, api.Bounds},
		{adriftBook(), 0, reach(0, 5), api.Reach{}, api.Bounds},
		{adriftBook(), 0, reach(0, 0), api.Reach{}, api.Adrift},
		{bookD(), 0, reach(math.MinInt, math.MaxInt), api.Reach{}, api.Bounds},
	} {
		o, h := drag.Steady(x.b, x.line, x.x)
		if h != x.h || h != api.Smooth && !isZero(o) {
			t.Errorf("%d: %v, %v", i, o, h)
			continue
		}
		if h == api.Smooth {
			want := clone(x.b)
			want.Lines[x.line].Tide = x.tide
			if !equal(o, want) {
				t.Errorf("%d: %v", i, o)
			}
		}
	}
	o, _ := drag.Steady(bookD(), 0, reach(0, 0))
	if n := mustCases(t, o); n != 8 {
		t.Errorf("Cases of D, steadied: %d", n)
	}
}

func TestTaut(t *testing.T) {
	o, h := drag.Taut(bookE(), 0)
	want := bookE()
	want.Slack = 0
	if !equal(o, want) || h != api.Smooth || mustCases(t, o) != 8 {
		t.Errorf("%v, %v", o, h)
	}
	if l := mustWhere(t, o); !slices.Equal(l, []api.DragSquare{sq(0, 1), sq(0, 2), sq(2, 1), sq(2, 2)}) {
		t.Errorf("Where of E, taut: %v", l)
	}
	if o, h := drag.Taut(bookE(), 1); !equal(o, bookE()) || h != api.Smooth {
		t.Errorf("as it was: %v, %v", o, h)
	}
	iron := bookE()
	iron.Leads = []api.DragLead{{At: sq(1, 1), Brought: api.DragIron}}
	for i, x := range []struct {
		b     api.DragBook
		slack int
		want  api.Hitch
	}{
		{bookE(), 2, api.Bounds}, {bookE(), -1, api.Bounds}, {bookE(), math.MaxInt, api.Bounds}, {adriftBook(), 2, api.Bounds},
		{adriftBook(), 1, api.Adrift}, {iron, 0, api.Adrift}, {api.DragBook{Slack: 9}, 0, api.Bounds},
	} {
		if o, h := drag.Taut(x.b, x.slack); !isZero(o) || h != x.want {
			t.Errorf("%d: %v, %v", i, o, h)
		}
	}
}

const textD = "drag 3 3 1\nground sss\nground smm\nground s?s\nrock 0 0\nline 0:1 1:2 0:1 touched\nline 1:2 0 0 free\n"

func TestPrint(t *testing.T) {
	if s, h := drag.Print(bookD()); s != textD || h != api.Smooth {
		t.Errorf("%q, %v", s, h)
	}
	b := bookD()
	b.Lines[1].Tide = reach(-4, -3)
	b.Rocks = append(b.Rocks, sq(2, 1))
	b.Leads = []api.DragLead{{At: sq(1, 2), Brought: api.DragIron}, {At: sq(2, 0), Brought: api.DragMud}, {At: sq(0, 0)}}
	want := "drag 3 3 1\nground sss\nground smm\nground s?s\nrock 0 0\nrock 2 1\nline 0:1 1:2 0:1 touched\nline 1:2 0 -4:-3 free\nlead 1 2 iron\nlead 2 0 mud\nlead 0 0 sand\n"
	if s, h := drag.Print(b); s != want || h != api.Smooth {
		t.Errorf("%q, %v", s, h)
	}
	if s, h := drag.Print(api.DragBook{}); s != "" || h != api.Bounds {
		t.Errorf("%q, %v", s, h)
	}
}

func TestParse(t *testing.T) {
	for _, s := range []string{textD, strings.TrimSuffix(textD, "\n")} {
		if b, n, h := drag.Parse(s); !equal(b, bookD()) || n != 0 || h != api.Smooth {
			t.Errorf("%v, %d, %v", b, n, h)
		}
	}
	want := api.DragBook{Rows: 1, Lanes: 1, Ground: []string{"?"}, Leads: []api.DragLead{{Brought: api.DragIron}}}
	if b, n, h := drag.Parse("drag 1 1 0\nground ?\nlead 0 0 iron"); !equal(b, want) || n != 0 || h != api.Smooth {
		t.Errorf("%v, %d, %v", b, n, h)
	}
}

func TestParseWrongLines(t *testing.T) {
	const bare = "drag 1 1 0\nground s\n"
	for s, line := range map[string]int{
		"": 0, "\n": 1, "\n" + bare: 1, " drag 1 1 0\n": 1, "drag": 1, "drag 1 1\n": 1, "drag 1 1 0 0\n": 1, "drag  1 1 0\n": 1, "drag 1 1 0 \n": 1,
		"drag 1 1 x\n": 1, "drag 1 1 00\n": 1, "drag 01 1 0\n": 1, "drag +1 1 0\n": 1, "drag 1 -0 0\n": 1, "drag 1 - 0\n": 1, "drag 1 1:2 0\n": 1,
		"drag 1234567890 1 0\n": 1, "Drag 1 1 0\n": 1, "drag 1\t1 0\n": 1, "drag 1 1 0\r\n": 1,
		"ground s\n": 1, "rock 0 0\n": 1, "line 0 0 0 free\n": 1, "lead 0 0 sand\n": 1, "boat\n": 1,
		bare + "drag 1 1 0\n": 3, bare + "\n": 3, bare + "boat 0\n": 3, bare + "lead\n": 3, "drag 1 1 0\nground\n": 2, "drag 1 1 0\nground s s\n": 2, "drag 1 1 0\nground  s\n": 2,
		bare + "rock 0\n": 3, bare + "rock 0 0 0\n": 3, bare + "rock 0 x\n": 3, bare + "rock 0:1 0\n": 3,
		bare + "line 0 0 0\n": 3, bare + "line 0 0 0 free free\n": 3, bare + "line 0 0 0 slack\n": 3, bare + "line 0 0 0 Free\n": 3, bare + "line x 0 0 free\n": 3, bare + "line 0 x 0 free\n": 3, bare + "line 0 0 x free\n": 3,
		bare + "line 0:0 0 0 free\n": 3, bare + "line 0 0: 0 free\n": 3, bare + "line 0 0 0:1:2 free\n": 3, bare + "line 0 0 0,1 free\n": 3,
		bare + "lead 0 0\n": 3, bare + "lead 0 0 clay\n": 3, bare + "lead 0 0 0\n": 3, bare + "lead 0 0 sand sand\n": 3, bare + "lead 0 x sand\n": 3, bare + "lead x 0 iron\n": 3,
		bare + "rock 0 0\nground s\n": 4, bare + "line 0 0 0 free\nground s\n": 4, bare + "line 0 0 0 free\nrock 0 0\n": 4, bare + "lead 0 0 mud\nline 0 0 0 free\n": 4, bare + "lead 0 0 mud\nrock 0 0\n": 4, bare + "lead 0 0 mud\nground s\n": 4, bare + "lead 0 0 mud\ndrag 1 1 0\n": 4,
		bare + "lead 0 0 mud\n\nlead\n": 4, "drag 9 9 9\nrock 0 0\nlead\n": 3, strings.Repeat("\n", api.MaxText): 1,
	} {
		if b, n, h := drag.Parse(s); !isZero(b) || n != line || h != api.Shape {
			t.Errorf("%.60q: %v, %d, %v, want line %d", s, b, n, h, line)
		}
	}
}

func TestParseHitches(t *testing.T) {
	const bare = "drag 1 1 0\nground s\n"
	for s, want := range map[string]api.Hitch{
		"drag 1 1 0\n":                              api.Number,
		"drag 1 1 0\nrock 0 0\n":                    api.Number,
		"drag 1 1 0\nlead 0 0 sand\n":               api.Number,
		bare + "ground s\n":                         api.Number,
		"drag 0 1 0\n":                              api.Bounds,
		"drag 999999999 -999999999 0\n":             api.Bounds,
		"drag 1 1 0\nground 5\n":                    api.Shape,
		"drag 1 1 0\nground sm\n":                   api.Shape,
		"drag 1 1 0\nground \xff\n":                 api.Shape,
		"drag 1 3 0\nground ???\n":                  api.Number,
		bare + "rock 0 0\nrock 0 0\n":               api.Crossed,
		bare + "rock 0 1\n":                         api.Missing,
		bare + "line 1:0 0 0 free\n":                api.Missing,
		bare + "line 0 0:1 0 free\n":                api.Missing,
		bare + "line 0 0 1:0 free\n":                api.Bounds,
		bare + "line 0 0 -5 free\n":                 api.Bounds,
		bare + "lead 0 -1 sand\n":                   api.Missing,
		bare + strings.Repeat("lead 0 0 sand\n", 4): api.Number,
		bare + strings.Repeat("ground s\n", 4440):   api.Number,
		strings.Repeat("d", api.MaxText+1):          api.Number,
		strings.Repeat(textD, api.MaxText):          api.Number,
	} {
		if b, n, h := drag.Parse(s); !isZero(b) || n != 0 || h != want {
			t.Errorf("%.60q: %v, %d, %v", s, b, n, h)
		}
	}
	// A text as long as the limit is read: its first line is wrong.
	if b, n, h := drag.Parse(strings.Repeat("d", api.MaxText)); !isZero(b) || n != 1 || h != api.Shape {
		t.Errorf("%v, %d, %v", b, n, h)
	}
}
