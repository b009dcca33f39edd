package slack_test

import (
	"math"
	"math/rand"
	"slices"
	"strings"
	"testing"

	"lagan/api"
	"lagan/model"
	"lagan/slack"
)

// Tests of P3.1 to P3.5: what the functions return.

func TestCheckBook(t *testing.T) {
	four := func(ats ...int) []api.SlackTurn {
		var turns []api.SlackTurn
		for _, at := range ats {
			turns = append(turns, api.SlackTurn{At: at})
		}
		return turns
	}
	for name, x := range map[string]struct {
		change func(b *api.SlackBook)
		want   api.Hitch
	}{
		"as it is":               {func(b *api.SlackBook) {}, api.Smooth},
		"least shift":            {func(b *api.SlackBook) { b.Shift = reach(-9, -7) }, api.Smooth},
		"greatest shift":         {func(b *api.SlackBook) { b.Shift = reach(7, 9) }, api.Smooth},
		"shift below":            {func(b *api.SlackBook) { b.Shift = reach(-10, -9) }, api.Bounds},
		"shift above":            {func(b *api.SlackBook) { b.Shift = reach(9, 10) }, api.Bounds},
		"shift turned":           {func(b *api.SlackBook) { b.Shift = reach(1, 0) }, api.Bounds},
		"shift of four numbers":  {func(b *api.SlackBook) { b.Shift = reach(-1, 2) }, api.Bounds},
		"any shift":              {func(b *api.SlackBook) { b.Shift = reach(math.MinInt, math.MaxInt) }, api.Bounds},
		"least clock":            {func(b *api.SlackBook) { b.Clock = reach(-5, -3) }, api.Smooth},
		"greatest clock":         {func(b *api.SlackBook) { b.Clock = reach(3, 5) }, api.Smooth},
		"clock below":            {func(b *api.SlackBook) { b.Clock = reach(-6, -5) }, api.Bounds},
		"clock above":            {func(b *api.SlackBook) { b.Clock = reach(5, 6) }, api.Bounds},
		"clock turned":           {func(b *api.SlackBook) { b.Clock = reach(0, -1) }, api.Bounds},
		"clock of four numbers":  {func(b *api.SlackBook) { b.Clock = reach(-1, 2) }, api.Bounds},
		"any clock":              {func(b *api.SlackBook) { b.Clock = reach(math.MaxInt, math.MinInt) }, api.Bounds},
		"no turn":                {func(b *api.SlackBook) { b.Turns = nil }, api.Number},
		"one turn":               {func(b *api.SlackBook) { b.Turns = b.Turns[:1] }, api.Smooth},
		"four turns":             {func(b *api.SlackBook) { b.Turns = four(20, 40, 60, 180) }, api.Smooth},
		"five turns":             {func(b *api.SlackBook) { b.Turns = four(20, 40, 60, 80, 100) }, api.Number},
		"a turn below":           {func(b *api.SlackBook) { b.Turns[0].At = 19 }, api.Bounds},
		"a turn above":           {func(b *api.SlackBook) { b.Turns[1].At = 181 }, api.Bounds},
		"a turn far below":       {func(b *api.SlackBook) { b.Turns[1].At = math.MinInt }, api.Bounds},
		"a turn far above":       {func(b *api.SlackBook) { b.Turns[0].At = math.MaxInt }, api.Bounds},
		"turns apart":            {func(b *api.SlackBook) { b.Turns[1].At = 60 }, api.Smooth},
		"turns too near":         {func(b *api.SlackBook) { b.Turns[1].At = 59 }, api.Crossed},
		"turns at once":          {func(b *api.SlackBook) { b.Turns[1].At = 40 }, api.Crossed},
		"turns crossed":          {func(b *api.SlackBook) { b.Turns[1].At = 20 }, api.Crossed},
		"least half":             {func(b *api.SlackBook) { b.Turns[0].Half = reach(0, 2) }, api.Smooth},
		"greatest half":          {func(b *api.SlackBook) { b.Turns[0].Half = reach(7, 9) }, api.Smooth},
		"half below":             {func(b *api.SlackBook) { b.Turns[0].Half = reach(-1, 0) }, api.Bounds},
		"half above":             {func(b *api.SlackBook) { b.Turns[1].Half = reach(9, 10) }, api.Bounds},
		"half turned":            {func(b *api.SlackBook) { b.Turns[1].Half = reach(2, 1) }, api.Bounds},
		"half of four numbers":   {func(b *api.SlackBook) { b.Turns[1].Half = reach(1, 4) }, api.Bounds},
		"any half":               {func(b *api.SlackBook) { b.Turns[1].Half = reach(math.MinInt, math.MaxInt) }, api.Bounds},
		"no watch":               {func(b *api.SlackBook) { b.Watches = nil }, api.Smooth},
		"four watches":           {func(b *api.SlackBook) { b.Watches = make([]api.SlackWatch, 4) }, api.Smooth},
		"five watches":           {func(b *api.SlackBook) { b.Watches = make([]api.SlackWatch, 5) }, api.Number},
		"first tick":             {func(b *api.SlackBook) { b.Watches[0].At = 0 }, api.Smooth},
		"last tick":              {func(b *api.SlackBook) { b.Watches[0].At = 200 }, api.Smooth},
		"a watch below":          {func(b *api.SlackBook) { b.Watches[0].At = -1 }, api.Bounds},
		"a watch above":          {func(b *api.SlackBook) { b.Watches[0].At = 201 }, api.Bounds},
		"any watch":              {func(b *api.SlackBook) { b.Watches[0].At = math.MinInt }, api.Bounds},
		"shift, then turns":      {func(b *api.SlackBook) { b.Shift, b.Turns = reach(0, 3), nil }, api.Bounds},
		"clock, then turns":      {func(b *api.SlackBook) { b.Clock, b.Turns = reach(0, 3), nil }, api.Bounds},
		"many turns, then which": {func(b *api.SlackBook) { b.Turns = four(0, 0, 0, 0, 0) }, api.Number},
		"at, then apart":         {func(b *api.SlackBook) { b.Turns[1].At = 19 }, api.Bounds},
		"apart, then half":       {func(b *api.SlackBook) { b.Turns[1] = api.SlackTurn{At: 59, Half: reach(0, 9)} }, api.Crossed},
		"turn by turn, half":     {func(b *api.SlackBook) { b.Turns[0].Half, b.Turns[1].At = reach(0, 9), 59 }, api.Bounds},
		"turn by turn, at":       {func(b *api.SlackBook) { b.Turns = four(20, 39, 200) }, api.Crossed},
		"turns, then watches":    {func(b *api.SlackBook) { b.Turns[1].At, b.Watches = 59, make([]api.SlackWatch, 5) }, api.Crossed},
		"turns, then which":      {func(b *api.SlackBook) { b.Turns[1].At, b.Watches[0].At = 59, 201 }, api.Crossed},
		"many, then which":       {func(b *api.SlackBook) { b.Watches = []api.SlackWatch{{At: -1}, {}, {}, {}, {}} }, api.Number},
	} {
		b := bookS()
		x.change(&b)
		if h := slack.CheckBook(b); h != x.want {
			t.Errorf("%s: %v, want %v", name, h, x.want)
		}
	}
}

func TestWindows(t *testing.T) {
	far := api.SlackBook{Turns: []api.SlackTurn{{At: 20}, {At: 180}}}
	for i, x := range []struct {
		b       api.SlackBook
		c       api.SlackCase
		windows []api.Reach
		is      bool
	}{
		{bookS(), tideCase(0, 0, 3, 1), []api.Reach{reach(37, 43), reach(69, 71)}, true},
		{bookS(), tideCase(1, 0, 2, 1), []api.Reach{reach(39, 43), reach(70, 72)}, true},
		{bookS(), tideCase(1, 0, 3, 1), []api.Reach{reach(38, 44), reach(70, 72)}, true},
		{bookS(), tideCase(0, 0, 2, 1), []api.Reach{reach(38, 42), reach(69, 71)}, false},
		// The watch is right in these, but a number is none of its reach.
		{bookS(), tideCase(2, 0, 2, 1), []api.Reach{reach(40, 44), reach(71, 73)}, false},
		{bookS(), tideCase(0, 1, 3, 1), []api.Reach{reach(37, 43), reach(69, 71)}, false},
		{bookS(), tideCase(0, 0, 4, 1), []api.Reach{reach(36, 44), reach(69, 71)}, false},
		{bookS(), tideCase(0, 0, 3, 0), []api.Reach{reach(37, 43), reach(70, 70)}, false},
		{far, tideCase(0, 0, 0, 0), []api.Reach{reach(20, 20), reach(180, 180)}, true},
		{far, tideCase(-9, 5, 9, 0), []api.Reach{reach(2, 20), reach(171, 171)}, false},
		{far, tideCase(9, -5, 0, 9), []api.Reach{reach(29, 29), reach(180, 198)}, false},
		{adriftBook(), tideCase(0, 0, 3, 1), []api.Reach{reach(37, 43), reach(69, 71)}, false},
	} {
		if l, h := slack.Windows(x.b, x.c); !slices.Equal(l, x.windows) || h != api.Smooth {
			t.Errorf("%d: Windows: %v, %v", i, l, h)
		}
		if is, h := slack.IsCase(x.b, x.c); is != x.is || h != api.Smooth {
			t.Errorf("%d: IsCase: %v, %v", i, is, h)
		}
	}
}

func TestClockIsRead(t *testing.T) {
	b := api.SlackBook{Clock: reach(-2, 0), Turns: []api.SlackTurn{{At: 40, Half: reach(2, 2)}}}
	for _, x := range []struct {
		at    int
		slack bool
		want  []int
	}{
		// When the clock shows 43, the true tick is that less the number by which it is wrong.
		{43, true, nil}, {42, true, []int{0}}, {41, true, []int{-1, 0}}, {36, true, []int{-2}}, {35, true, nil}, {37, false, []int{0}}, {43, false, []int{-2, -1, 0}},
	} {
		w := clone(b)
		w.Watches = []api.SlackWatch{{At: x.at, Slack: x.slack}}
		want := api.Smooth
		if x.want == nil {
			want = api.Adrift
		}
		if l, h := slack.Clock(w); !slices.Equal(l, x.want) || h != want {
			t.Errorf("%v: %v, %v", x, l, h)
		}
	}
	// A true tick that is none of the day is not slack.
	for _, w := range []api.SlackWatch{{At: 0}, {At: 200}, {At: 0, Slack: true}, {At: 200, Slack: true}} {
		for _, clock := range []int{-5, 5} {
			b := api.SlackBook{Clock: reach(clock, clock), Turns: []api.SlackTurn{{At: 20}, {At: 180}}, Watches: []api.SlackWatch{w}}
			if is, h := slack.IsCase(b, tideCase(0, clock, 0, 0)); is == w.Slack || h != api.Smooth {
				t.Errorf("%v: %v, %v", b, is, h)
			}
		}
	}
}

func TestCaseHitches(t *testing.T) {
	for i, x := range []struct {
		b     api.SlackBook
		c     api.SlackCase
		works []int
		want  api.Hitch
	}{
		{bookS(), tideCase(-9, -5, 0, 9), nil, api.Smooth},
		{bookS(), tideCase(9, 5, 9, 0), []int{1, 20}, api.Smooth},
		{bookS(), tideCase(10, 0), []int{0}, api.Bounds},
		{bookS(), tideCase(-10, 0), nil, api.Bounds},
		{bookS(), tideCase(math.MinInt, 0, 3, 1), nil, api.Bounds},
		{bookS(), tideCase(0, 6), nil, api.Bounds},
		{bookS(), tideCase(0, -6), nil, api.Bounds},
		{bookS(), tideCase(0, math.MaxInt, 3, 1), nil, api.Bounds},
		{bookS(), tideCase(0, 0), nil, api.Number},
		{bookS(), tideCase(0, 0, 10), []int{0}, api.Number},
		{bookS(), tideCase(0, 0, 1, 1, 1), nil, api.Number},
		{bookS(), tideCase(0, 0, 10, 1), nil, api.Bounds},
		{bookS(), tideCase(0, 0, 1, -1), make([]int, 7), api.Bounds},
		{bookS(), tideCase(0, 0, math.MaxInt, math.MinInt), nil, api.Bounds},
		{api.SlackBook{}, tideCase(10, 0), []int{0}, api.Number},
	} {
		l, h := slack.Windows(x.b, x.c)
		if h != x.want || (l == nil) != (h != api.Smooth) {
			t.Errorf("%d: Windows: %v, %v", i, l, h)
		}
		if is, h := slack.IsCase(x.b, x.c); is || h != x.want {
			t.Errorf("%d: IsCase: %v, %v", i, is, h)
		}
		l2, h := slack.Starts(x.b, x.c, x.works)
		if h != x.want || h != api.Smooth && l2 != nil {
			t.Errorf("%d: Starts: %v, %v", i, l2, h)
		}
	}
}

func TestIsCaseAsReckonedOtherwise(t *testing.T) {
	eachRandom(60, func(r *rand.Rand, b api.SlackBook) {
		b.Turns = b.Turns[:min(2, len(b.Turns))]
		for _, c := range modelAll(b, 1) {
			if is, h := slack.IsCase(b, c); is != modelIs(b, c) || h != api.Smooth {
				t.Fatalf("IsCase(%v, %v): %v, %v", b, c, is, h)
			}
			windows, h := slack.Windows(b, c)
			if l := modelReaches(func(tick int) bool { return modelSlack(b, c, tick) }); !slices.Equal(l, windows) || h != api.Smooth {
				t.Fatalf("Windows(%v, %v): %v, %v, want %v", b, c, windows, h, l)
			}
		}
	})
}

func TestStarts(t *testing.T) {
	for i, x := range []struct {
		c           api.SlackCase
		works, want []int
		h           api.Hitch
	}{
		{tideCase(1, 0, 2, 1), []int{3, 2, 2}, []int{39, 42, 70}, api.Smooth},
		{tideCase(0, 0, 3, 1), []int{3, 2, 2}, []int{37, 40, 42}, api.Smooth},
		{tideCase(0, 0, 3, 1), nil, nil, api.Smooth},
		{tideCase(0, 0, 3, 1), []int{7}, []int{37}, api.Smooth},
		{tideCase(0, 0, 3, 1), []int{8}, nil, api.Smooth},
		// Not even a piece that would fit is done behind one that does not.
		{tideCase(0, 0, 3, 1), []int{8, 1}, nil, api.Smooth},
		{tideCase(0, 0, 3, 1), []int{2, 8, 1}, []int{37}, api.Smooth},
		{tideCase(0, 0, 3, 1), []int{3, 3, 3, 1}, []int{37, 40, 69}, api.Smooth},
		{tideCase(0, 0, 3, 1), []int{1, 1, 1, 1, 1, 3}, []int{37, 38, 39, 40, 41, 69}, api.Smooth},
		{tideCase(0, 0, 3, 1), []int{7, 3, 1}, []int{37, 69}, api.Smooth},
		{tideCase(0, 0, 9, 9), []int{19, 19}, []int{31, 61}, api.Smooth},
		{tideCase(0, 0, 9, 9), []int{20}, nil, api.Smooth},
		{tideCase(0, 0, 0, 0), []int{1, 1, 1}, []int{40, 70}, api.Smooth},
		{tideCase(0, 0, 3, 1), []int{0}, nil, api.Bounds},
		{tideCase(0, 0, 3, 1), []int{1, 21}, nil, api.Bounds},
		{tideCase(0, 0, 3, 1), []int{math.MinInt, math.MaxInt}, nil, api.Bounds},
		{tideCase(0, 0, 3, 1), []int{0, 1, 1, 1, 1, 1, 1}, nil, api.Number},
		{tideCase(0, 0, 3), []int{0}, nil, api.Number},
	} {
		for _, b := range []api.SlackBook{bookS(), adriftBook()} {
			if l, h := slack.Starts(b, x.c, x.works); !slices.Equal(l, x.want) || h != x.h {
				t.Errorf("%d: %v, %v", i, l, h)
			}
		}
	}
	// Windows that are as near as can be are two, all the same.
	near := api.SlackBook{Turns: []api.SlackTurn{{At: 40}, {At: 60}}}
	if l, h := slack.Starts(near, tideCase(0, 0, 9, 9), []int{18, 2}); !slices.Equal(l, []int{31, 51}) || h != api.Smooth {
		t.Errorf("near: %v, %v", l, h)
	}
}

func TestStartsAsReckonedOtherwise(t *testing.T) {
	r := rand.New(rand.NewSource(1))
	for range 300 {
		b, really := randomBook(r, true)
		works := randomWorks(r, 6)
		windows, _ := slack.Windows(b, really)
		if l, h := slack.Starts(b, really, works); !slices.Equal(l, modelStarts(windows, works)) || h != api.Smooth {
			t.Errorf("Starts(%v, %v, %v): %v, %v, want %v", b, really, works, l, h, modelStarts(windows, works))
		}
	}
}

func TestCasesOfS(t *testing.T) {
	b := bookS()
	if n := mustCases(t, b); n != 3 {
		t.Errorf("Cases: %d", n)
	}
	if l, h := slack.Shift(b); !slices.Equal(l, []int{0, 1}) || h != api.Smooth {
		t.Errorf("Shift: %v, %v", l, h)
	}
	if l, h := slack.Clock(b); !slices.Equal(l, []int{0}) || h != api.Smooth {
		t.Errorf("Clock: %v, %v", l, h)
	}
	if l, h := slack.Half(b, 0); !slices.Equal(l, []int{2, 3}) || h != api.Smooth {
		t.Errorf("Half: %v, %v", l, h)
	}
	if l, h := slack.Half(b, 1); !slices.Equal(l, []int{1}) || h != api.Smooth {
		t.Errorf("Half of the turn 1: %v, %v", l, h)
	}
	for tick, want := range map[int]api.Known{43: api.Surely, 44: api.Unsure, 45: api.Never, 38: api.Unsure, 39: api.Surely, 0: api.Never, 200: api.Never} {
		if u, h := slack.At(b, tick); u != want || h != api.Smooth {
			t.Errorf("At %d: %v, %v", tick, u, h)
		}
	}
	if n := mustCases(t, adriftBook()); n != 0 {
		t.Errorf("Cases of a book without one: %d", n)
	}
}

func TestCasesAtTheLimits(t *testing.T) {
	b := api.SlackBook{Shift: reach(-9, -7), Clock: reach(3, 5)}
	for i := range 4 {
		b.Turns = append(b.Turns, api.SlackTurn{At: 20 + 20*i, Half: reach(7, 9)})
	}
	if n := mustCases(t, b); n != 3*3*81 {
		t.Errorf("without watches: %d", n)
	}
	b.Watches = []api.SlackWatch{{At: 5}, {At: 26, Slack: true}, {At: 86}, {At: 46, Slack: true}}
	if n := mustCases(t, b); n != len(modelCases(b)) || n == 0 {
		t.Errorf("with watches: %d, want %d", n, len(modelCases(b)))
	}
}

func TestCasesAsReckonedOtherwise(t *testing.T) {
	adrift := 0
	eachRandom(200, func(r *rand.Rand, b api.SlackBook) {
		cases := modelCases(b)
		if n := mustCases(t, b); n != len(cases) {
			t.Fatalf("Cases(%v): %d, want %d", b, n, len(cases))
		}
		if len(cases) == 0 {
			adrift++
			checkAdrift(t, b)
			return
		}
		checkNumbers(t, b, cases)
		checkTicks(t, b, cases)
		checkAsk(t, b, cases)
		checkMany(t, b, cases, randomWorks(r, 6))
	})
	if adrift == 0 || adrift == 200 {
		t.Errorf("%d books of 200 had no case", adrift)
	}
}

// checkAdrift checks what is told of a book that has no case.
func checkAdrift(t *testing.T, b api.SlackBook) {
	t.Helper()
	model.CheckZero(t, api.Adrift, questions(b, 0, nil)...)
	model.CheckZero(t, api.Adrift, func() (bool, api.Hitch) {
		o, h := slack.Blow(b, reach(-9, 9))
		return isZero(o), h
	})
}

// checkNumbers checks what is told of the numbers that cases have.
func checkNumbers(t *testing.T, b api.SlackBook, cases []api.SlackCase) {
	t.Helper()
	want := modelNumbers(cases, func(c api.SlackCase) int { return c.Shift })
	if l, h := slack.Shift(b); !slices.Equal(l, want) || h != api.Smooth {
		t.Errorf("Shift(%v): %v, %v, want %v", b, l, h, want)
	}
	want = modelNumbers(cases, func(c api.SlackCase) int { return c.Clock })
	if l, h := slack.Clock(b); !slices.Equal(l, want) || h != api.Smooth {
		t.Errorf("Clock(%v): %v, %v, want %v", b, l, h, want)
	}
	for i := range b.Turns {
		want := modelNumbers(cases, func(c api.SlackCase) int { return c.Halfs[i] })
		if l, h := slack.Half(b, i); !slices.Equal(l, want) || h != api.Smooth {
			t.Errorf("Half(%v, %d): %v, %v, want %v", b, i, l, h, want)
		}
	}
}

// checkTicks checks what is told of the ticks of a day.
func checkTicks(t *testing.T, b api.SlackBook, cases []api.SlackCase) {
	t.Helper()
	for tick := range 201 {
		want := model.Known(cases, func(c api.SlackCase) bool { return modelSlack(b, c, tick) })
		if u, h := slack.At(b, tick); u != want || h != api.Smooth {
			t.Errorf("At(%v, %d): %v, %v, want %v", b, tick, u, h, want)
		}
	}
	sure := modelSure(b, cases)
	if l, h := slack.Sure(b); !slices.Equal(l, sure) || h != api.Smooth {
		t.Errorf("Sure(%v): %v, %v, want %v", b, l, h, sure)
	}
	perhaps := modelReaches(func(tick int) bool {
		return slices.ContainsFunc(cases, func(c api.SlackCase) bool { return modelSlack(b, c, tick) })
	})
	if l, h := slack.Perhaps(b); !slices.Equal(l, perhaps) || h != api.Smooth {
		t.Errorf("Perhaps(%v): %v, %v, want %v", b, l, h, perhaps)
	}
	var long api.Reach
	for i, r := range sure {
		if i == 0 || r.Most-r.Least > long.Most-long.Least {
			long = r
		}
	}
	if x, found, h := slack.Longest(b); x != long || found != (len(sure) > 0) || h != api.Smooth {
		t.Errorf("Longest(%v): %v, %v, %v, want %v", b, x, found, h, long)
	}
}

// checkAsk checks at which tick of the clock it is to be watched.
func checkAsk(t *testing.T, b api.SlackBook, cases []api.SlackCase) {
	t.Helper()
	first, fewest := -1, len(cases)
	for at := range 201 {
		yes := 0
		for _, c := range cases {
			if modelSlack(b, c, at-c.Clock) {
				yes++
			}
		}
		if most := max(yes, len(cases)-yes); most < fewest {
			first, fewest = at, most
		}
	}
	if tick, left, h := slack.Ask(b); tick != first || left != fewest || h != api.Smooth {
		t.Errorf("Ask(%v): %d, %d, %v, want %d, %d", b, tick, left, h, first, fewest)
	}
}

// checkMany checks how many works fit.
func checkMany(t *testing.T, b api.SlackBook, cases []api.SlackCase, works []int) {
	t.Helper()
	var fit []int
	for _, c := range cases {
		windows, _ := slack.Windows(b, c)
		fit = append(fit, len(modelStarts(windows, works)))
	}
	want := reach(slices.Min(fit), slices.Max(fit))
	if x, h := slack.Many(b, works); x != want || h != api.Smooth {
		t.Errorf("Many(%v, %v): %v, %v, want %v", b, works, x, h, want)
	}
}

func TestWhatIsNotThere(t *testing.T) {
	for _, b := range []api.SlackBook{bookS(), adriftBook()} {
		for _, i := range []int{-1, 2, math.MinInt, math.MaxInt} {
			if l, h := slack.Half(b, i); l != nil || h != api.Missing {
				t.Errorf("Half %d: %v, %v", i, l, h)
			}
		}
		for _, tick := range []int{-1, 201, math.MinInt, math.MaxInt} {
			if u, h := slack.At(b, tick); u != 0 || h != api.Bounds {
				t.Errorf("At %d: %v, %v", tick, u, h)
			}
		}
	}
}

func TestSure(t *testing.T) {
	narrow := api.SlackBook{Shift: reach(0, 2), Turns: []api.SlackTurn{{At: 40}}}
	apart := clone(narrow)
	apart.Watches = []api.SlackWatch{{At: 41}}
	// The reaches of two turns that are as near as can be touch each other, and are one.
	near := api.SlackBook{Shift: reach(0, 1), Turns: []api.SlackTurn{{At: 40, Half: reach(9, 9)}, {At: 60, Half: reach(9, 9)}}}
	same := api.SlackBook{Turns: []api.SlackTurn{{At: 20, Half: reach(1, 1)}, {At: 180, Half: reach(1, 1)}}}
	for i, x := range []struct {
		b             api.SlackBook
		sure, perhaps []api.Reach
		long          api.Reach
	}{
		{bookS(), []api.Reach{reach(39, 43), reach(70, 71)}, []api.Reach{reach(37, 44), reach(69, 72)}, reach(39, 43)},
		{narrow, nil, []api.Reach{reach(40, 42)}, reach(0, 0)},
		{apart, nil, []api.Reach{reach(40, 40), reach(42, 42)}, reach(0, 0)},
		{near, []api.Reach{reach(32, 49), reach(52, 69)}, []api.Reach{reach(31, 70)}, reach(32, 49)},
		{same, []api.Reach{reach(19, 21), reach(179, 181)}, []api.Reach{reach(19, 21), reach(179, 181)}, reach(19, 21)},
	} {
		if l, h := slack.Sure(x.b); !slices.Equal(l, x.sure) || h != api.Smooth {
			t.Errorf("%d: Sure: %v, %v", i, l, h)
		}
		if l, h := slack.Perhaps(x.b); !slices.Equal(l, x.perhaps) || h != api.Smooth {
			t.Errorf("%d: Perhaps: %v, %v", i, l, h)
		}
		if r, found, h := slack.Longest(x.b); r != x.long || found != (x.sure != nil) || h != api.Smooth {
			t.Errorf("%d: Longest: %v, %v, %v", i, r, found, h)
		}
	}
	second := bookS()
	second.Turns[1].Half = reach(4, 4)
	if r, found, h := slack.Longest(second); r != reach(67, 74) || !found || h != api.Smooth {
		t.Errorf("Longest is the second one: %v, %v, %v", r, found, h)
	}
}

func TestWorks(t *testing.T) {
	none := api.SlackBook{Shift: reach(0, 2), Turns: []api.SlackTurn{{At: 40}}}
	for i, x := range []struct {
		b          api.SlackBook
		works      []int
		many       api.Reach
		plan, late []int
		found      bool
		h          api.Hitch
	}{
		{bookS(), []int{3, 2, 2}, reach(3, 3), []int{39, 42, 70}, []int{39, 42, 70}, true, api.Smooth},
		{bookS(), []int{4, 2, 2}, reach(2, 3), nil, nil, false, api.Smooth},
		{bookS(), []int{2}, reach(1, 1), []int{39}, []int{70}, true, api.Smooth},
		{bookS(), []int{1, 2}, reach(2, 2), []int{39, 40}, []int{43, 70}, true, api.Smooth},
		{bookS(), []int{2, 1}, reach(2, 2), []int{39, 41}, []int{42, 71}, true, api.Smooth},
		{bookS(), []int{1, 1}, reach(2, 2), []int{39, 40}, []int{70, 71}, true, api.Smooth},
		{bookS(), []int{1, 1, 1, 1, 1, 1}, reach(6, 6), []int{39, 40, 41, 42, 43, 70}, []int{40, 41, 42, 43, 70, 71}, true, api.Smooth},
		{bookS(), nil, reach(0, 0), nil, nil, true, api.Smooth},
		{bookS(), []int{7}, reach(0, 1), nil, nil, false, api.Smooth},
		{bookS(), []int{20}, reach(0, 0), nil, nil, false, api.Smooth},
		{bookS(), []int{20, 1}, reach(0, 0), nil, nil, false, api.Smooth},
		{none, []int{1}, reach(1, 1), nil, nil, false, api.Smooth},
		{none, []int{1, 1}, reach(1, 1), nil, nil, false, api.Smooth},
		{none, nil, reach(0, 0), nil, nil, true, api.Smooth},
		{bookS(), []int{21}, reach(0, 0), nil, nil, false, api.Bounds},
		{bookS(), []int{1, 0}, reach(0, 0), nil, nil, false, api.Bounds},
		{bookS(), []int{math.MaxInt, math.MinInt}, reach(0, 0), nil, nil, false, api.Bounds},
		{bookS(), make([]int, 7), reach(0, 0), nil, nil, false, api.Number},
		{adriftBook(), []int{0}, reach(0, 0), nil, nil, false, api.Bounds},
		{adriftBook(), make([]int, 7), reach(0, 0), nil, nil, false, api.Number},
		{adriftBook(), []int{2}, reach(0, 0), nil, nil, false, api.Adrift},
		{api.SlackBook{Shift: reach(1, 0)}, make([]int, 7), reach(0, 0), nil, nil, false, api.Bounds},
	} {
		if r, h := slack.Many(x.b, x.works); r != x.many || h != x.h {
			t.Errorf("%d: Many: %v, %v", i, r, h)
		}
		if l, found, h := slack.Plan(x.b, x.works); !slices.Equal(l, x.plan) || found != x.found || h != x.h {
			t.Errorf("%d: Plan: %v, %v, %v", i, l, found, h)
		}
		if l, found, h := slack.Late(x.b, x.works); !slices.Equal(l, x.late) || found != x.found || h != x.h {
			t.Errorf("%d: Late: %v, %v, %v", i, l, found, h)
		}
	}
}

func TestPlansAsReckonedOtherwise(t *testing.T) {
	planned := 0
	eachRandom(200, func(r *rand.Rand, b api.SlackBook) {
		sure, h := slack.Sure(b)
		if h != api.Smooth {
			return
		}
		works := randomWorks(r, 3)
		var early, late []int
		plans := modelPlans(sure, works, 0)
		if len(plans) > 0 {
			planned++
			early, late = slices.MinFunc(plans, slices.Compare[[]int]), modelLate(plans)
		}
		if l, found, h := slack.Plan(b, works); !slices.Equal(l, early) || found != (len(plans) > 0) || h != api.Smooth {
			t.Errorf("Plan(%v, %v): %v, %v, %v, want %v", b, works, l, found, h, early)
		}
		if l, found, h := slack.Late(b, works); !slices.Equal(l, late) || found != (len(plans) > 0) || h != api.Smooth {
			t.Errorf("Late(%v, %v): %v, %v, %v, want %v", b, works, l, found, h, late)
		}
	})
	if planned < 50 {
		t.Errorf("%d works could be planned", planned)
	}
}

func TestClash(t *testing.T) {
	watches := func(list ...api.SlackWatch) api.SlackBook {
		b := bookS()
		b.Watches = list
		return b
	}
	yes := func(at int) api.SlackWatch { return api.SlackWatch{At: at, Slack: true} }
	no := func(at int) api.SlackWatch { return api.SlackWatch{At: at} }
	for i, x := range []struct {
		b    api.SlackBook
		want []int
	}{
		{bookS(), nil},
		{watches(), nil},
		{adriftBook(), []int{1}},
		{watches(yes(38), yes(44), yes(37)), []int{1, 2}},
		{watches(yes(43), no(43)), []int{0, 1}},
		{watches(yes(43), yes(43), no(43), no(43)), []int{0, 2}},
		{watches(no(40), yes(45)), []int{0}},
		{watches(yes(44), yes(37), yes(45)), []int{2}},
		{watches(yes(44), yes(69), yes(40), yes(70)), []int{0, 1}},
		// Any two of the last three are right in a case.
		{watches(yes(38), no(37), yes(69), yes(43)), []int{1, 2, 3}},
	} {
		if l, h := slack.Clash(x.b); !slices.Equal(l, x.want) || h != api.Smooth {
			t.Errorf("%d: %v, %v", i, l, h)
		}
	}
}

func TestClashAsReckonedOtherwise(t *testing.T) {
	clashed := 0
	eachRandom(200, func(r *rand.Rand, b api.SlackBook) {
		var few []int
		for _, l := range model.Lists(len(b.Watches)) {
			if (few == nil || model.CompareLists(l, few) < 0) && len(modelCases(only(b, l))) == 0 {
				few = l
			}
		}
		if few != nil {
			clashed++
		}
		if l, h := slack.Clash(b); !slices.Equal(l, few) || h != api.Smooth {
			t.Errorf("Clash(%v): %v, %v, want %v", b, l, h, few)
		}
	})
	if clashed < 20 {
		t.Errorf("%d books clashed", clashed)
	}
}

func TestAsk(t *testing.T) {
	wrong := api.SlackBook{Clock: reach(-1, 1), Turns: []api.SlackTurn{{At: 40, Half: reach(2, 2)}}}
	two := api.SlackBook{Clock: reach(0, 1), Turns: []api.SlackTurn{{At: 40}}}
	full := bookS()
	full.Watches = slices.Repeat(full.Watches, 4)
	// Two cases of these differ, as far as the clock shows it, at no tick but the first one of the day, or the last one.
	first := api.SlackBook{Shift: reach(-7, -6), Clock: reach(-5, -5), Turns: []api.SlackTurn{{At: 20, Half: reach(8, 9)}}, Watches: []api.SlackWatch{{At: 18}, {At: 17, Slack: true}}}
	last := api.SlackBook{Shift: reach(6, 7), Clock: reach(5, 5), Turns: []api.SlackTurn{{At: 180, Half: reach(8, 9)}}, Watches: []api.SlackWatch{{At: 182}, {At: 183, Slack: true}}}
	for i, x := range []struct {
		b          api.SlackBook
		tick, left int
	}{
		{bookS(), 37, 2},
		{full, 37, 2},
		// The clock shows 37 at the true tick 38 only if it is wrong by -1.
		{wrong, 37, 2},
		{two, 40, 1},
		{first, 0, 1},
		{last, 200, 1},
		{api.SlackBook{Turns: []api.SlackTurn{{At: 40, Half: reach(3, 3)}}}, -1, 1},
	} {
		if tick, left, h := slack.Ask(x.b); tick != x.tick || left != x.left || h != api.Smooth {
			t.Errorf("%d: %d, %d, %v", i, tick, left, h)
		}
	}
}

func TestWatch(t *testing.T) {
	for i, x := range []struct {
		w    api.SlackWatch
		many int
	}{
		{api.SlackWatch{At: 44}, 2}, {api.SlackWatch{At: 44, Slack: true}, 1}, {api.SlackWatch{At: 43, Slack: true}, 3}, {api.SlackWatch{}, 3}, {api.SlackWatch{At: 200}, 3},
	} {
		want := bookS()
		want.Watches = append(want.Watches, x.w)
		if o, h := slack.Watch(bookS(), x.w); !equal(o, want) || h != api.Smooth || mustCases(t, o) != x.many {
			t.Errorf("%d: %v, %v", i, o, h)
		}
	}
	full := bookS()
	full.Watches = slices.Repeat(full.Watches, 4)
	for i, x := range []struct {
		b    api.SlackBook
		w    api.SlackWatch
		want api.Hitch
	}{
		{bookS(), api.SlackWatch{At: -1}, api.Bounds},
		{bookS(), api.SlackWatch{At: 201}, api.Bounds},
		{bookS(), api.SlackWatch{At: math.MaxInt}, api.Bounds},
		{bookS(), api.SlackWatch{At: 43}, api.Adrift},
		{bookS(), api.SlackWatch{At: 45, Slack: true}, api.Adrift},
		{adriftBook(), api.SlackWatch{}, api.Adrift},
		{adriftBook(), api.SlackWatch{At: 201}, api.Bounds},
		{full, api.SlackWatch{At: 201}, api.Number},
		{api.SlackBook{}, api.SlackWatch{At: 201}, api.Number},
	} {
		if o, h := slack.Watch(x.b, x.w); !isZero(o) || h != x.want {
			t.Errorf("%d: %v, %v", i, o, h)
		}
	}
}

func TestBlow(t *testing.T) {
	for i, x := range []struct {
		b    api.SlackBook
		x    api.Reach
		want api.Reach
		h    api.Hitch
	}{
		{bookS(), reach(0, 0), reach(0, 0), api.Smooth},
		{bookS(), reach(-9, 9), reach(0, 1), api.Smooth},
		{bookS(), reach(-9, 0), reach(0, 0), api.Smooth},
		{bookS(), reach(1, 9), reach(1, 1), api.Smooth},
		{bookS(), reach(2, 9), reach(0, 0), api.Adrift},
		{bookS(), reach(-9, -1), reach(0, 0), api.Adrift},
		{bookS(), reach(1, 0), reach(0, 0), api.Bounds},
		{bookS(), reach(-10, 0), reach(0, 0), api.Bounds},
		{bookS(), reach(0, 10), reach(0, 0), api.Bounds},
		{bookS(), reach(math.MinInt, math.MaxInt), reach(0, 0), api.Bounds},
		{adriftBook(), reach(0, 10), reach(0, 0), api.Bounds},
		{adriftBook(), reach(0, 0), reach(0, 0), api.Adrift},
		{api.SlackBook{}, reach(0, 10), reach(0, 0), api.Number},
	} {
		o, h := slack.Blow(x.b, x.x)
		if h != x.h || h != api.Smooth && !isZero(o) {
			t.Errorf("%d: %v, %v", i, o, h)
		}
		want := clone(x.b)
		want.Shift = x.want
		if h == api.Smooth && !equal(o, want) {
			t.Errorf("%d: %v", i, o)
		}
	}
	o, _ := slack.Blow(bookS(), reach(0, 0))
	if n := mustCases(t, o); n != 1 {
		t.Errorf("Cases of S, blown: %d", n)
	}
	// What is left of Shift can be what no case has.
	late := bookS()
	late.Watches = []api.SlackWatch{{At: 44, Slack: true}}
	if o, h := slack.Blow(late, reach(0, 0)); !isZero(o) || h != api.Adrift {
		t.Errorf("%v, %v", o, h)
	}
}

const textS = "slack 0:1 0\nturn 40 2:3\nturn 70 1\nwatch 43 yes\n"

func TestPrint(t *testing.T) {
	if s, h := slack.Print(bookS()); s != textS || h != api.Smooth {
		t.Errorf("%q, %v", s, h)
	}
	b := bookS()
	b.Shift, b.Clock = reach(-9, -7), reach(-1, 1)
	b.Turns[0].Half = reach(0, 0)
	b.Watches = append(b.Watches, api.SlackWatch{At: 0}, api.SlackWatch{At: 200})
	want := "slack -9:-7 -1:1\nturn 40 0\nturn 70 1\nwatch 43 yes\nwatch 0 no\nwatch 200 no\n"
	if s, h := slack.Print(b); s != want || h != api.Smooth {
		t.Errorf("%q, %v", s, h)
	}
	if s, h := slack.Print(adriftBook()); s != textS+"watch 45 yes\n" || h != api.Smooth {
		t.Errorf("%q, %v", s, h)
	}
	if s, h := slack.Print(api.SlackBook{}); s != "" || h != api.Number {
		t.Errorf("%q, %v", s, h)
	}
}

func TestParse(t *testing.T) {
	for _, s := range []string{textS, strings.TrimSuffix(textS, "\n")} {
		if b, n, h := slack.Parse(s); !equal(b, bookS()) || n != 0 || h != api.Smooth {
			t.Errorf("%v, %d, %v", b, n, h)
		}
	}
	want := api.SlackBook{Shift: reach(-2, 0), Clock: reach(-5, -5), Turns: []api.SlackTurn{{At: 20}}, Watches: []api.SlackWatch{{At: 200}}}
	if b, n, h := slack.Parse("slack -2:0 -5\nturn 20 0\nwatch 200 no"); !equal(b, want) || n != 0 || h != api.Smooth {
		t.Errorf("%v, %d, %v", b, n, h)
	}
}

func TestParseWrongLines(t *testing.T) {
	const bare = "slack 0 0\nturn 40 1\n"
	for s, line := range map[string]int{
		"": 0, "\n": 1, "\n" + bare: 1, " slack 0 0\n": 1, "slack": 1, "slack 0\n": 1, "slack 0 0 0\n": 1, "slack  0 0\n": 1, "slack 0 0 \n": 1,
		"slack x 0\n": 1, "slack 0 x\n": 1, "slack 00 0\n": 1, "slack 0 01\n": 1, "slack +1 0\n": 1, "slack -0 0\n": 1, "slack - 0\n": 1, "slack 0:0 0\n": 1, "slack 0: 0\n": 1, "slack :1 0\n": 1, "slack 0:1:2 0\n": 1, "slack 0,1 0\n": 1,
		"slack 1234567890 0\n": 1, "Slack 0 0\n": 1, "slack 0\t0\n": 1, "slack 0 0\r\n": 1, "slack 0 \xff\n": 1,
		"turn 40 1\n": 1, "watch 40 yes\n": 1, "tide 0 0\n": 1, "turn 40 1\nslack 0 0\n": 1,
		bare + "slack 0 0\n": 3, bare + "\n": 3, bare + "tide 0 0\n": 3, bare + "turn\n": 3, bare + "turn 60\n": 3, bare + "turn 60 1 1\n": 3, bare + "turn 60:61 1\n": 3, bare + "turn 060 1\n": 3, bare + "turn 60 x\n": 3, bare + "turn 60 1:1\n": 3, bare + "turn x 1\n": 3,
		bare + "watch\n": 3, bare + "watch 40\n": 3, bare + "watch 40 yes no\n": 3, bare + "watch 40 Yes\n": 3, bare + "watch 40 1\n": 3, bare + "watch 40 maybe\n": 3, bare + "watch x yes\n": 3, bare + "watch 40:41 yes\n": 3, bare + "watch  40 yes\n": 3, bare + "watches 40 yes\n": 3,
		bare + "watch 40 yes\nturn 70 1\n": 4, bare + "watch 40 yes\nslack 0 0\n": 4, bare + "watch 40 yes\n\nturn\n": 4, "slack 9:0 99\nwatch 999 no\nturn\n": 3, strings.Repeat("\n", api.MaxText): 1,
	} {
		if b, n, h := slack.Parse(s); !isZero(b) || n != line || h != api.Shape {
			t.Errorf("%.60q: %v, %d, %v, want line %d", s, b, n, h, line)
		}
	}
}

func TestParseHitches(t *testing.T) {
	const bare = "slack 0 0\nturn 40 1\n"
	for s, want := range map[string]api.Hitch{
		"slack 0 0\n":                              api.Number,
		"slack 0 0\nwatch 40 yes\n":                api.Number,
		"slack 0:3 0\n":                            api.Bounds,
		"slack 1:0 0\n":                            api.Bounds,
		"slack 0 999999999\n":                      api.Bounds,
		"slack 0 -6\n":                             api.Bounds,
		bare + "turn 59 1\n":                       api.Crossed,
		bare + "turn 60 2:1\n":                     api.Bounds,
		bare + "turn 60 -1\n":                      api.Bounds,
		bare + "turn -60 1\n":                      api.Bounds,
		bare + "watch -1 yes\n":                    api.Bounds,
		bare + "watch 201 no\n":                    api.Bounds,
		bare + strings.Repeat("watch 40 yes\n", 5): api.Number,
		bare + strings.Repeat("turn 60 1\n", 3000): api.Number,
		strings.Repeat("s", api.MaxText+1):         api.Number,
		strings.Repeat(textS, api.MaxText):         api.Number,
	} {
		if b, n, h := slack.Parse(s); !isZero(b) || n != 0 || h != want {
			t.Errorf("%.60q: %v, %d, %v", s, b, n, h)
		}
	}
	// A book without a case is read.
	if b, n, h := slack.Parse(textS + "watch 45 yes\n"); !equal(b, adriftBook()) || n != 0 || h != api.Smooth {
		t.Errorf("%v, %d, %v", b, n, h)
	}
	// A text as long as the limit is read: its first line is wrong.
	if b, n, h := slack.Parse(strings.Repeat("s", api.MaxText)); !isZero(b) || n != 1 || h != api.Shape {
		t.Errorf("%v, %d, %v", b, n, h)
	}
}
