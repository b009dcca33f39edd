package stint_test

import (
	"math"
	"math/rand"
	"slices"
	"strings"
	"testing"

	"lagan/api"
	"lagan/model"
	"lagan/stint"
)

// Tests of P5.1 to P5.5: what each function returns.

const (
	unsure = api.Unsure
	surely = api.Surely
	never  = api.Never
)

// men returns men with names who go as deep as can be.
func men(names ...string) []api.StintMan {
	var all []api.StintMan
	for _, s := range names {
		all = append(all, api.StintMan{Name: s, Deepest: 30})
	}
	return all
}

// row returns a row.
func row(depth, stay int) api.StintRow { return api.StintRow{Depth: depth, Stay: stay} }

// dive returns a dive at the place 0.
func dive(begin, ticks, men int) api.StintDive {
	return api.StintDive{Begin: begin, Ticks: ticks, Men: men}
}

// easy is a book in which all men may do all dives.
func easy(rest int, names []string, dives ...api.StintDive) api.StintBook {
	return api.StintBook{Rest: rest, Rows: []api.StintRow{row(30, 60)}, Places: []api.Reach{one(5)}, Men: men(names...), Dives: dives}
}

func TestCheckBook(t *testing.T) {
	dives := func(b *api.StintBook, x ...api.StintDive) { b.Dives = x }
	for name, x := range map[string]struct {
		change func(b *api.StintBook)
		want   api.Hitch
	}{
		"T":                           {func(b *api.StintBook) {}, api.Smooth},
		"rest below":                  {func(b *api.StintBook) { b.Rest = -1 }, api.Bounds},
		"no rest":                     {func(b *api.StintBook) { b.Rest = 0 }, api.Smooth},
		"longest rest":                {func(b *api.StintBook) { b.Rest = 60 }, api.Smooth},
		"rest above":                  {func(b *api.StintBook) { b.Rest = 61 }, api.Bounds},
		"any rest":                    {func(b *api.StintBook) { b.Rest = math.MinInt }, api.Bounds},
		"no rows":                     {func(b *api.StintBook) { b.Rows = nil }, api.Number},
		"one row":                     {func(b *api.StintBook) { b.Rows = b.Rows[:1] }, api.Smooth},
		"four rows":                   {func(b *api.StintBook) { b.Rows = []api.StintRow{row(1, 60), row(2, 60), row(3, 1), row(30, 1)} }, api.Smooth},
		"five rows":                   {func(b *api.StintBook) { b.Rows = []api.StintRow{row(1, 9), row(2, 8), row(3, 7), row(4, 6), row(5, 5)} }, api.Number},
		"row at no depth":             {func(b *api.StintBook) { b.Rows[0].Depth = 0 }, api.Bounds},
		"row at the least depth":      {func(b *api.StintBook) { b.Rows[0].Depth = 1 }, api.Smooth},
		"row at the greatest depth":   {func(b *api.StintBook) { b.Rows[1].Depth = 30 }, api.Smooth},
		"row too deep":                {func(b *api.StintBook) { b.Rows[1].Depth = 31 }, api.Bounds},
		"no stay":                     {func(b *api.StintBook) { b.Rows[1].Stay = 0 }, api.Bounds},
		"shortest stay":               {func(b *api.StintBook) { b.Rows[1].Stay = 1 }, api.Smooth},
		"longest stay":                {func(b *api.StintBook) { b.Rows[0].Stay = 60 }, api.Smooth},
		"stay above":                  {func(b *api.StintBook) { b.Rows[0].Stay = 61 }, api.Bounds},
		"rows alike deep":             {func(b *api.StintBook) { b.Rows[1].Depth = 10 }, api.Crossed},
		"rows out of order":           {func(b *api.StintBook) { b.Rows[1].Depth = 9 }, api.Crossed},
		"next row":                    {func(b *api.StintBook) { b.Rows[1] = row(11, 40) }, api.Smooth},
		"longer stay deeper":          {func(b *api.StintBook) { b.Rows[1].Stay = 41 }, api.Crossed},
		"no places":                   {func(b *api.StintBook) { b.Places = nil }, api.Number},
		"no places, then men":         {func(b *api.StintBook) { b.Places, b.Men[0].Name = nil, "" }, api.Number},
		"three places":                {func(b *api.StintBook) { b.Places = []api.Reach{reach(1, 3), one(1), reach(28, 30)} }, api.Smooth},
		"four places":                 {func(b *api.StintBook) { b.Places = []api.Reach{one(1), one(1), one(1), one(1)} }, api.Number},
		"place at no depth":           {func(b *api.StintBook) { b.Places[0] = reach(0, 1) }, api.Bounds},
		"place too deep":              {func(b *api.StintBook) { b.Places[1] = reach(30, 31) }, api.Bounds},
		"place turned":                {func(b *api.StintBook) { b.Places[1] = reach(15, 14) }, api.Bounds},
		"place of four depths":        {func(b *api.StintBook) { b.Places[0] = reach(9, 12) }, api.Bounds},
		"any place":                   {func(b *api.StintBook) { b.Places[0] = reach(math.MinInt, math.MaxInt) }, api.Bounds},
		"nobody":                      {func(b *api.StintBook) { b.Men = nil }, api.Number},
		"one man":                     {func(b *api.StintBook) { b.Men = men("a") }, api.Smooth},
		"four men":                    {func(b *api.StintBook) { b.Men = men("a", "b", "c", "d") }, api.Smooth},
		"five men":                    {func(b *api.StintBook) { b.Men = men("a", "b", "c", "d", "e") }, api.Number},
		"no name":                     {func(b *api.StintBook) { b.Men[0].Name = "" }, api.Label},
		"a name that is no label":     {func(b *api.StintBook) { b.Men[1].Name = "Bo" }, api.Label},
		"a name with a blank":         {func(b *api.StintBook) { b.Men[1].Name = "b o" }, api.Label},
		"a name that begins wrong":    {func(b *api.StintBook) { b.Men[1].Name = "2bo" }, api.Label},
		"a longest name":              {func(b *api.StintBook) { b.Men[1].Name = "abcdefghijk9" }, api.Smooth},
		"a longer name":               {func(b *api.StintBook) { b.Men[1].Name = "abcdefghijklm" }, api.Label},
		"a name twice":                {func(b *api.StintBook) { b.Men[1].Name = "ann" }, api.Double},
		"a name twice, apart":         {func(b *api.StintBook) { b.Men = men("a", "b", "a") }, api.Double},
		"no deepest":                  {func(b *api.StintBook) { b.Men[0].Deepest = 0 }, api.Bounds},
		"least deepest":               {func(b *api.StintBook) { b.Men[0].Deepest = 1 }, api.Smooth},
		"greatest deepest":            {func(b *api.StintBook) { b.Men[1].Deepest = 30 }, api.Smooth},
		"deepest above":               {func(b *api.StintBook) { b.Men[1].Deepest = 31 }, api.Bounds},
		"no dives":                    {func(b *api.StintBook) { b.Dives = nil }, api.Number},
		"one dive":                    {func(b *api.StintBook) { dives(b, dive(0, 1, 1)) }, api.Smooth},
		"four dives":                  {func(b *api.StintBook) { dives(b, dive(0, 1, 1), dive(0, 1, 1), dive(0, 1, 1), dive(0, 1, 1)) }, api.Smooth},
		"five dives":                  {func(b *api.StintBook) { b.Dives = slices.Repeat(b.Dives[:1], 5) }, api.Number},
		"dive at no place":            {func(b *api.StintBook) { b.Dives[0].Place = 2 }, api.Missing},
		"dive at a place below":       {func(b *api.StintBook) { b.Dives[2].Place = -1 }, api.Missing},
		"dive at any place":           {func(b *api.StintBook) { b.Dives[2].Place = math.MaxInt }, api.Missing},
		"begin below":                 {func(b *api.StintBook) { b.Dives[0].Begin = -1 }, api.Bounds},
		"latest begin":                {func(b *api.StintBook) { b.Dives[0].Begin = 200 }, api.Smooth},
		"begin above":                 {func(b *api.StintBook) { b.Dives[0].Begin = 201 }, api.Bounds},
		"no ticks":                    {func(b *api.StintBook) { b.Dives[1].Ticks = 0 }, api.Bounds},
		"one tick":                    {func(b *api.StintBook) { b.Dives[1].Ticks = 1 }, api.Smooth},
		"most ticks":                  {func(b *api.StintBook) { b.Dives[1].Ticks = 60 }, api.Smooth},
		"ticks above":                 {func(b *api.StintBook) { b.Dives[1].Ticks = 61 }, api.Bounds},
		"any ticks":                   {func(b *api.StintBook) { b.Dives[1].Ticks = math.MaxInt }, api.Bounds},
		"a dive without men":          {func(b *api.StintBook) { b.Dives[2].Men = 0 }, api.Bounds},
		"a dive of more than all men": {func(b *api.StintBook) { b.Dives[2].Men = 3 }, api.Smooth},
		"a dive of four men":          {func(b *api.StintBook) { b.Dives[2].Men = 4 }, api.Bounds},
		"dives out of order":          {func(b *api.StintBook) { slices.Reverse(b.Dives) }, api.Smooth},
		"three soundings":             {func(b *api.StintBook) { b.Soundings = slices.Repeat(bookU().Soundings, 3) }, api.Smooth},
		"four soundings":              {func(b *api.StintBook) { b.Soundings = slices.Repeat(bookU().Soundings, 4) }, api.Number},
		"sounded at no place":         {func(b *api.StintBook) { b.Soundings = []api.StintSounding{free(2, 5)} }, api.Missing},
		"sounded at a place below":    {func(b *api.StintBook) { b.Soundings = []api.StintSounding{free(-1, 5)} }, api.Missing},
		"line below":                  {func(b *api.StintBook) { b.Soundings = []api.StintSounding{free(1, -1)} }, api.Bounds},
		"shortest line":               {func(b *api.StintBook) { b.Soundings = []api.StintSounding{free(1, 0)} }, api.Smooth},
		"longest line":                {func(b *api.StintBook) { b.Soundings = []api.StintSounding{touched(1, 30)} }, api.Smooth},
		"line above":                  {func(b *api.StintBook) { b.Soundings = []api.StintSounding{touched(1, 31)} }, api.Bounds},
		"no case":                     {func(b *api.StintBook) { b.Soundings = adriftBook().Soundings }, api.Smooth},

		"rest, then rows":        {func(b *api.StintBook) { b.Rest, b.Rows = 61, nil }, api.Bounds},
		"many rows, then which":  {func(b *api.StintBook) { b.Rows = make([]api.StintRow, 5) }, api.Number},
		"depth, then order":      {func(b *api.StintBook) { b.Rows[1] = row(0, 41) }, api.Bounds},
		"stay, then order":       {func(b *api.StintBook) { b.Rows[1] = row(10, 61) }, api.Bounds},
		"row by row":             {func(b *api.StintBook) { b.Rows = append(b.Rows, row(20, 1), row(0, 0)) }, api.Crossed},
		"row by row, bounds":     {func(b *api.StintBook) { b.Rows = []api.StintRow{row(10, 40), row(31, 20), row(1, 1)} }, api.Bounds},
		"rows, then places":      {func(b *api.StintBook) { b.Rows[1].Stay, b.Places = 41, nil }, api.Crossed},
		"many places, then what": {func(b *api.StintBook) { b.Places = make([]api.Reach, 4) }, api.Number},
		"places, then men":       {func(b *api.StintBook) { b.Places[1], b.Men = one(0), nil }, api.Bounds},
		"many men, then who":     {func(b *api.StintBook) { b.Men = men("", "", "", "", "") }, api.Number},
		"label, then double":     {func(b *api.StintBook) { b.Men = men("a", "A", "A") }, api.Label},
		"label, then deepest":    {func(b *api.StintBook) { b.Men[0] = api.StintMan{Name: "A"} }, api.Label},
		"double, then deepest":   {func(b *api.StintBook) { b.Men[1] = api.StintMan{Name: "ann"} }, api.Double},
		"man by man":             {func(b *api.StintBook) { b.Men[0].Deepest, b.Men[1].Name = 0, "Bo" }, api.Bounds},
		"men, then dives":        {func(b *api.StintBook) { b.Men[1].Name, b.Dives = "ann", nil }, api.Double},
		"many dives, then which": {func(b *api.StintBook) { b.Dives = slices.Repeat([]api.StintDive{{Place: -1}}, 5) }, api.Number},
		"place, then begin":      {func(b *api.StintBook) { b.Dives[0] = api.StintDive{Place: 2, Begin: -1} }, api.Missing},
		"dive by dive":           {func(b *api.StintBook) { b.Dives[0].Men, b.Dives[1].Place = 0, 9 }, api.Bounds},
		"dives, then soundings":  {func(b *api.StintBook) { b.Dives[2].Place, b.Soundings = 2, make([]api.StintSounding, 4) }, api.Missing},
		"many, then where":       {func(b *api.StintBook) { b.Soundings = slices.Repeat([]api.StintSounding{free(9, 9)}, 4) }, api.Number},
		"place, then line":       {func(b *api.StintBook) { b.Soundings = []api.StintSounding{free(2, 31)} }, api.Missing},
		"sounding by sounding":   {func(b *api.StintBook) { b.Soundings = []api.StintSounding{free(0, 31), free(2, 0)} }, api.Bounds},
	} {
		b := bookT()
		x.change(&b)
		if h := stint.CheckBook(b); h != x.want {
			t.Errorf("%s: %v, want %v", name, h, x.want)
		}
	}
}

func TestStay(t *testing.T) {
	for _, b := range []api.StintBook{bookT(), adriftBook()} {
		for depth, want := range map[int]int{1: 40, 9: 40, 10: 40, 11: 20, 19: 20, 20: 20, 21: 0, 30: 0} {
			if n, h := stint.Stay(b, depth); n != want || h != api.Smooth {
				t.Errorf("%d: %d, %v", depth, n, h)
			}
		}
		for _, depth := range []int{0, 31, -1, math.MinInt, math.MaxInt} {
			if n, h := stint.Stay(b, depth); n != 0 || h != api.Bounds {
				t.Errorf("%d: %d, %v", depth, n, h)
			}
		}
	}
	eachRandom(100, func(_ *rand.Rand, b api.StintBook) {
		for depth := 1; depth <= api.MaxStintDepth; depth++ {
			if n, h := stint.Stay(b, depth); n != modelStay(b, depth) || h != api.Smooth {
				t.Errorf("Stay(%v, %d): %d, %v, want %d", b, depth, n, h, modelStay(b, depth))
			}
		}
	})
}

func TestIsCase(t *testing.T) {
	three := bookT()
	three.Places = append(three.Places, reach(28, 30))
	for i, x := range []struct {
		b      api.StintBook
		depths []int
		want   bool
		h      api.Hitch
	}{
		{bookT(), []int{9, 15}, true, api.Smooth}, {bookT(), []int{11, 15}, true, api.Smooth}, {bookT(), []int{8, 15}, false, api.Smooth}, {bookT(), []int{12, 15}, false, api.Smooth}, {bookT(), []int{9, 14}, false, api.Smooth}, {bookT(), []int{9, 16}, false, api.Smooth}, {bookT(), []int{15, 9}, false, api.Smooth}, {bookT(), []int{30, 1}, false, api.Smooth},
		{bookU(), []int{10, 15}, true, api.Smooth}, {bookU(), []int{11, 15}, false, api.Smooth}, {adriftBook(), []int{9, 15}, false, api.Smooth}, {adriftBook(), []int{8, 15}, false, api.Smooth},
		{sounded(bookT(), free(0, 10)), []int{11, 15}, true, api.Smooth}, {sounded(bookT(), free(0, 10)), []int{10, 15}, false, api.Smooth}, {sounded(bookT(), touched(1, 15)), []int{9, 15}, true, api.Smooth},
		{three, []int{9, 15, 30}, true, api.Smooth}, {three, []int{9, 15, 27}, false, api.Smooth},
		{bookT(), nil, false, api.Number}, {bookT(), []int{0}, false, api.Number}, {bookT(), []int{9, 15, 0}, false, api.Number}, {three, []int{9, 15}, false, api.Number},
		{bookT(), []int{9, 0}, false, api.Bounds}, {bookT(), []int{31, 15}, false, api.Bounds}, {bookT(), []int{math.MinInt, math.MaxInt}, false, api.Bounds}, {adriftBook(), []int{9, 31}, false, api.Bounds}, {adriftBook(), []int{9}, false, api.Number},
		{api.StintBook{}, nil, false, api.Number}, {rested(bookT(), 61), []int{9}, false, api.Bounds},
	} {
		if is, h := stint.IsCase(x.b, x.depths); is != x.want || h != x.h {
			t.Errorf("%d: %v, %v", i, is, h)
		}
	}
}

func TestApart(t *testing.T) {
	meet := easy(0, []string{"a"}, dive(10, 10, 1), dive(20, 5, 1), dive(19, 5, 1), dive(10, 10, 1))
	for i, x := range []struct {
		b        api.StintBook
		one, two int
		want     bool
		h        api.Hitch
	}{
		{bookT(), 0, 1, true, api.Smooth}, {bookT(), 1, 2, true, api.Smooth}, {bookT(), 0, 2, true, api.Smooth}, {bookT(), 2, 2, false, api.Smooth}, {rested(bookT(), 11), 0, 1, false, api.Smooth}, {rested(bookT(), 15), 1, 2, true, api.Smooth}, {rested(bookT(), 16), 1, 2, false, api.Smooth}, {rested(bookT(), 40), 0, 2, true, api.Smooth}, {rested(bookT(), 41), 0, 2, false, api.Smooth}, {adriftBook(), 0, 1, true, api.Smooth},
		{meet, 0, 1, true, api.Smooth}, {meet, 0, 2, false, api.Smooth}, {meet, 0, 3, false, api.Smooth}, {meet, 1, 2, false, api.Smooth}, {meet, 0, 0, false, api.Smooth},
		{bookT(), 0, 3, false, api.Missing}, {bookT(), -1, 0, false, api.Missing}, {adriftBook(), math.MinInt, math.MaxInt, false, api.Missing}, {rested(bookT(), -1), 0, 3, false, api.Bounds},
	} {
		for _, pair := range [][2]int{{x.one, x.two}, {x.two, x.one}} {
			if is, h := stint.Apart(x.b, pair[0], pair[1]); is != x.want || h != x.h {
				t.Errorf("%d: %v, %v", i, is, h)
			}
		}
	}
	eachRandom(100, func(_ *rand.Rand, b api.StintBook) {
		for i := range b.Dives {
			for k := range b.Dives {
				if is, h := stint.Apart(b, i, k); is != modelApart(b, i, k) || h != api.Smooth {
					t.Errorf("Apart(%v, %d, %d): %v, %v", b, i, k, is, h)
				}
			}
		}
	})
}

func TestCasesOfT(t *testing.T) {
	deep := bookT()
	deep.Places[1] = reach(20, 22)
	for i, x := range []struct {
		b              api.StintBook
		many           int
		first, second  []int
		stays0, stays1 api.Reach
		h              api.Hitch
	}{
		{bookT(), 3, []int{9, 10, 11}, []int{15}, reach(20, 40), one(20), api.Smooth},
		{bookU(), 2, []int{9, 10}, []int{15}, one(40), one(20), api.Smooth},
		{sounded(bookT(), free(0, 10)), 1, []int{11}, []int{15}, one(20), one(20), api.Smooth},
		{sounded(bookT(), free(0, 9), touched(0, 10)), 1, []int{10}, []int{15}, one(40), one(20), api.Smooth},
		{sounded(bookT(), touched(0, 30), free(0, 0)), 3, []int{9, 10, 11}, []int{15}, reach(20, 40), one(20), api.Smooth},
		{deep, 9, []int{9, 10, 11}, []int{20, 21, 22}, reach(20, 40), reach(0, 20), api.Smooth},
		{sounded(deep, free(1, 20)), 6, []int{9, 10, 11}, []int{21, 22}, reach(20, 40), one(0), api.Smooth},
		{adriftBook(), 0, nil, nil, one(0), one(0), api.Adrift},
		{sounded(bookT(), free(1, 15)), 0, nil, nil, one(0), one(0), api.Adrift},
	} {
		if n := mustCases(t, x.b); n != x.many {
			t.Errorf("%d: Cases: %d", i, n)
		}
		for place, want := range [][]int{x.first, x.second} {
			if l, h := stint.Depths(x.b, place); !slices.Equal(l, want) || h != x.h {
				t.Errorf("%d: Depths %d: %v, %v", i, place, l, h)
			}
		}
		for place, want := range []api.Reach{x.stays0, x.stays1} {
			if r, h := stint.Stays(x.b, place); r != want || h != x.h {
				t.Errorf("%d: Stays %d: %v, %v", i, place, r, h)
			}
		}
	}
}

func TestMay(t *testing.T) {
	// bo may do the dive 0 where it is 11 or 12 deep, but not 13; 21 is deeper than the table goes.
	edge, below := bookT(), bookT()
	edge.Places[0] = reach(11, 13)
	below.Places[1] = reach(20, 21)
	below.Men[0].Deepest = 30
	// At 10 there are 40 ticks, and not one more.
	long, longer := bookT(), bookT()
	long.Dives[0].Ticks, longer.Dives[0].Ticks = 40, 41
	for i, x := range []struct {
		b       api.StintBook
		ann, bo [3]api.Known
		h       api.Hitch
	}{
		{bookT(), [3]api.Known{surely, surely, unsure}, [3]api.Known{surely, never, unsure}, api.Smooth},
		{bookU(), [3]api.Known{surely, surely, surely}, [3]api.Known{surely, never, surely}, api.Smooth},
		{sounded(bookT(), free(0, 10)), [3]api.Known{surely, surely, never}, [3]api.Known{surely, never, never}, api.Smooth},
		{edge, [3]api.Known{surely, surely, never}, [3]api.Known{unsure, never, never}, api.Smooth},
		{sounded(edge, touched(0, 12)), [3]api.Known{surely, surely, never}, [3]api.Known{surely, never, never}, api.Smooth},
		{below, [3]api.Known{surely, unsure, unsure}, [3]api.Known{surely, never, unsure}, api.Smooth},
		{long, [3]api.Known{unsure, surely, unsure}, [3]api.Known{unsure, never, unsure}, api.Smooth},
		{longer, [3]api.Known{never, surely, unsure}, [3]api.Known{never, never, unsure}, api.Smooth},
		{adriftBook(), [3]api.Known{}, [3]api.Known{}, api.Adrift},
	} {
		for man, all := range [][3]api.Known{x.ann, x.bo} {
			for dive, want := range all {
				if u, h := stint.May(x.b, man, dive); u != want || h != x.h {
					t.Errorf("%d: May %d %d: %v, %v", i, man, dive, u, h)
				}
			}
		}
	}
}

func TestWhatIsNotThere(t *testing.T) {
	for _, b := range []api.StintBook{bookT(), adriftBook()} {
		for _, i := range []int{-1, 3, math.MinInt, math.MaxInt} {
			model.CheckZero(t, api.Missing, placed(b, i, i, 0)...)
			model.CheckZero(t, api.Missing, placed(b, i, 0, i)...)
		}
		model.CheckZero(t, api.Missing, placed(b, 2, 2, 2)...)
	}
}

func TestGood(t *testing.T) {
	for i, x := range []struct {
		b    api.StintBook
		rota [][]int
		want api.Known
		h    api.Hitch
	}{
		{bookT(), [][]int{{0, 1}, {0}, {1}}, unsure, api.Smooth}, {bookU(), [][]int{{0, 1}, {0}, {1}}, surely, api.Smooth}, {bookU(), [][]int{{0, 1}, {0}, {0}}, surely, api.Smooth}, {bookU(), [][]int{{0, 1}, {1}, {0}}, never, api.Smooth}, {sounded(bookT(), free(0, 10)), [][]int{{0, 1}, {0}, {1}}, never, api.Smooth},
		// ann has no time for both of the dives 0 and 1.
		{rested(bookU(), 11), [][]int{{0, 1}, {0}, {1}}, never, api.Smooth}, {rested(bookT(), 11), [][]int{{0, 1}, {0}, {1}}, never, api.Smooth},
		// With a rest of 16 she has none for 1 and 2 either, and bo has for 0 and 2.
		{rested(bookU(), 16), [][]int{{0, 1}, {0}, {0}}, never, api.Smooth},
		{easy(16, []string{"a", "b", "c"}, dive(0, 20, 2), dive(30, 15, 1), dive(60, 30, 1)), [][]int{{0, 1}, {2}, {1}}, surely, api.Smooth},
		{easy(16, []string{"a", "b", "c"}, dive(0, 20, 2), dive(30, 15, 1), dive(60, 30, 1)), [][]int{{0, 1}, {2}, {2}}, never, api.Smooth},
		{adriftBook(), [][]int{{0, 1}, {0}, {1}}, unsure, api.Adrift}, {rested(adriftBook(), 60), [][]int{{0, 1}, {0}, {1}}, unsure, api.Adrift},
	} {
		if u, h := stint.Good(x.b, x.rota); u != x.want || h != x.h {
			t.Errorf("%d: %v, %v", i, u, h)
		}
	}
}

func TestRotaHitches(t *testing.T) {
	for i, x := range []struct {
		rota [][]int
		want api.Hitch
	}{
		{nil, api.Number}, {[][]int{{0, 1}, {0}}, api.Number}, {[][]int{{9, 9}, {9}}, api.Number}, {[][]int{{0, 1}, {0}, {0}, {0}}, api.Number}, {make([][]int, 3), api.Number}, {make([][]int, 100000), api.Number},
		{[][]int{{0}, {0}, {5}}, api.Number}, {[][]int{{5}, {0}, {0}}, api.Number}, {[][]int{{0, 1, 2}, {0}, {0}}, api.Number}, {[][]int{{0, 1}, {0, 1}, {2}}, api.Number}, {[][]int{{0, 1}, nil, {2}}, api.Number},
		{[][]int{{0, 2}, {0}, {0}}, api.Missing}, {[][]int{{-1, 0}, {0}, {0}}, api.Missing}, {[][]int{{0, 1}, {0}, {math.MaxInt}}, api.Missing}, {[][]int{{0, math.MinInt}, nil, nil}, api.Missing}, {[][]int{{1, -1}, {0}, {0}}, api.Missing},
		{[][]int{{1, 0}, {0}, {0}}, api.Crossed}, {[][]int{{0, 0}, {0}, {0}}, api.Crossed}, {[][]int{{1, 0}, {0}, {2}}, api.Crossed}, {[][]int{{1, 1}, nil, nil}, api.Crossed},
		{[][]int{{0, 2}, nil, nil}, api.Missing},
	} {
		for _, b := range []api.StintBook{bookT(), bookU(), adriftBook()} {
			if u, h := stint.Good(b, x.rota); u != unsure || h != x.want {
				t.Errorf("%d: %v, %v", i, u, h)
			}
		}
	}
	if u, h := stint.Good(rested(bookT(), 61), nil); u != unsure || h != api.Bounds {
		t.Errorf("%v, %v", u, h)
	}
}

func TestRotas(t *testing.T) {
	abc, abcd := []string{"a", "b", "c"}, []string{"a", "b", "c", "d"}
	apart, alike := easy(0, abcd, dive(0, 5, 2)), easy(0, abcd, dive(0, 5, 1), dive(3, 9, 1), dive(6, 2, 1), dive(9, 9, 1))
	// a may not go to the place, or just one of the others may.
	noneButB := easy(0, abc, dive(0, 10, 1), dive(10, 10, 1))
	noneButB.Men[0].Deepest, noneButB.Men[2].Deepest = 4, 4
	// The dives 1 and 3 need all men: there is no time for the dive 0 before one of them, or for the dive 2 behind the other one.
	crowded := easy(5, abc, dive(0, 10, 1), dive(12, 10, 3), dive(30, 10, 1), dive(27, 3, 3))
	for i, x := range []struct {
		b           api.StintBook
		many        int
		first, fair [][]int
		ticks       int
		crew, drop  []int
	}{
		{bookT(), 0, nil, nil, 0, nil, []int{2}},
		{bookU(), 2, [][]int{{0, 1}, {0}, {0}}, [][]int{{0, 1}, {0}, {1}}, 50, []int{0, 1}, nil},
		{rested(bookU(), 11), 0, nil, nil, 0, nil, []int{0}},
		{rested(bookU(), 60), 0, nil, nil, 0, nil, []int{0}},
		{apart, 6, [][]int{{0, 1}}, [][]int{{0, 1}}, 5, []int{0, 1}, nil},
		{easy(0, abc, dive(0, 5, 3)), 1, [][]int{{0, 1, 2}}, [][]int{{0, 1, 2}}, 5, []int{0, 1, 2}, nil},
		{easy(0, abc[:2], dive(0, 5, 3)), 0, nil, nil, 0, nil, []int{0}},
		// The dive 1 is under way in all others, which are apart.
		{alike, 4 * 3 * 3 * 3, [][]int{{0}, {1}, {0}, {0}}, [][]int{{0}, {1}, {0}, {2}}, 9, []int{0, 1}, nil},
		{noneButB, 1, [][]int{{1}, {1}}, [][]int{{1}, {1}}, 20, []int{1}, nil},
		{crowded, 0, nil, nil, 0, nil, []int{0, 2}},
		{easy(0, abc, dive(0, 10, 1), dive(10, 20, 1), dive(30, 30, 1)), 27, [][]int{{0}, {0}, {0}}, [][]int{{0}, {0}, {1}}, 30, []int{0}, nil},
		{easy(0, abc, dive(0, 10, 2), dive(10, 10, 2), dive(20, 10, 2)), 27, [][]int{{0, 1}, {0, 1}, {0, 1}}, [][]int{{0, 1}, {0, 2}, {1, 2}}, 20, []int{0, 1}, nil},
		// He who does the dive 0 is to rest before it.
		{easy(60, abc, dive(200, 60, 1), dive(81, 60, 3)), 0, nil, nil, 0, nil, []int{0}},
		{easy(59, abc, dive(200, 60, 1), dive(81, 60, 3)), 3, [][]int{{0}, {0, 1, 2}}, [][]int{{0}, {0, 1, 2}}, 120, []int{0, 1, 2}, nil},
	} {
		if n, h := stint.Rotas(x.b); n != x.many || h != api.Smooth {
			t.Errorf("%d: Rotas: %d, %v", i, n, h)
		}
		if l, found, h := stint.First(x.b); !sameRotas(l, x.first) || found != (x.many > 0) || h != api.Smooth {
			t.Errorf("%d: First: %v, %v, %v", i, l, found, h)
		}
		if l, n, found, h := stint.Fair(x.b); !sameRotas(l, x.fair) || n != x.ticks || found != (x.many > 0) || h != api.Smooth {
			t.Errorf("%d: Fair: %v, %d, %v, %v", i, l, n, found, h)
		}
		if l, found, h := stint.Crew(x.b); !slices.Equal(l, x.crew) || found != (x.many > 0) || h != api.Smooth {
			t.Errorf("%d: Crew: %v, %v, %v", i, l, found, h)
		}
		if l, h := stint.Drop(x.b); !slices.Equal(l, x.drop) || h != api.Smooth {
			t.Errorf("%d: Drop: %v, %v", i, l, h)
		}
	}
}

func TestFairIsTheLeastOne(t *testing.T) {
	// Another rota in which nobody is down for more than 7 ticks has 1,2 for the dive 1.
	b := easy(0, []string{"a", "b", "c", "d"}, dive(24, 2, 2), dive(26, 4, 2), dive(8, 3, 2), dive(0, 5, 1))
	b.Places = append(b.Places, one(20))
	b.Men[1].Deepest, b.Men[3].Deepest = 19, 19
	b.Dives[3].Place = 1
	if l, n, found, h := stint.Fair(b); !sameRotas(l, [][]int{{0, 1}, {0, 3}, {1, 3}, {2}}) || n != 7 || !found || h != api.Smooth {
		t.Errorf("%v, %d, %v, %v", l, n, found, h)
	}
	if u, h := stint.Good(b, [][]int{{0, 1}, {1, 2}, {2, 3}, {0}}); u != surely || h != api.Smooth {
		t.Errorf("%v, %v", u, h)
	}
}

func TestRotasAtTheLimits(t *testing.T) {
	b := easy(60, []string{"a", "b", "c", "d"}, dive(0, 1, 2), dive(61, 1, 2), dive(122, 1, 2), dive(183, 1, 2))
	if n, h := stint.Rotas(b); n != 6*6*6*6 || h != api.Smooth {
		t.Errorf("%d, %v", n, h)
	}
	if l, n, found, h := stint.Fair(b); !sameRotas(l, [][]int{{0, 1}, {0, 1}, {2, 3}, {2, 3}}) || n != 2 || !found || h != api.Smooth {
		t.Errorf("%v, %d, %v, %v", l, n, found, h)
	}
	// A man who can go nowhere leaves the others.
	b.Men[0].Deepest = 4
	if l, found, h := stint.First(b); !sameRotas(l, [][]int{{1, 2}, {1, 2}, {1, 2}, {1, 2}}) || !found || h != api.Smooth {
		t.Errorf("%v, %v, %v", l, found, h)
	}
	// No dive can be done: all are dropped.
	b.Rows[0].Depth = 4
	if l, h := stint.Drop(b); !slices.Equal(l, []int{0, 1, 2, 3}) || h != api.Smooth {
		t.Errorf("%v, %v", l, h)
	}
}

func TestAllAsReckonedOtherwise(t *testing.T) {
	adrift := 0
	eachRandom(400, func(r *rand.Rand, b api.StintBook) {
		cases := modelCases(b)
		if n := mustCases(t, b); n != len(cases) {
			t.Fatalf("Cases(%v): %d, want %d", b, n, len(cases))
		}
		for _, depths := range modelAll(b, 1) {
			if is, h := stint.IsCase(b, depths); is != modelIs(b, depths) || h != api.Smooth {
				t.Fatalf("IsCase(%v, %v): %v, %v", b, depths, is, h)
			}
		}
		if len(cases) == 0 {
			adrift++
			checkAdrift(t, r, b)
			return
		}
		checkDepths(t, b, cases)
		checkMay(t, r, b, cases)
		checkRotas(t, b, cases)
		checkFewest(t, b, cases)
		checkAsk(t, b, cases)
	})
	if adrift < 20 || adrift > 200 {
		t.Errorf("%d books of 400 had no case", adrift)
	}
}

// checkAdrift checks what is told of a book that has no case.
func checkAdrift(t *testing.T, r *rand.Rand, b api.StintBook) {
	t.Helper()
	model.CheckZero(t, api.Adrift, questions(b)...)
	for place := range b.Places {
		model.CheckZero(t, api.Adrift, placed(b, place, 0, len(b.Dives)-1)...)
	}
	if x, ok := randomRota(r, b); ok {
		if u, h := stint.Good(b, x); u != unsure || h != api.Adrift {
			t.Errorf("Good(%v, %v): %v, %v", b, x, u, h)
		}
	}
	if o, h := stint.Sound(b, touched(0, 30)); len(b.Soundings) < api.MaxStintSoundings && (!isZero(o) || h != api.Adrift) {
		t.Errorf("Sound(%v): %v, %v", b, o, h)
	}
}

// checkDepths checks what is told of depths and of stays.
func checkDepths(t *testing.T, b api.StintBook, cases [][]int) {
	t.Helper()
	for place := range b.Places {
		var depths, stays []int
		for _, c := range cases {
			depths = append(depths, c[place])
			stays = append(stays, modelStay(b, c[place]))
		}
		slices.Sort(depths)
		depths = slices.Compact(depths)
		if l, h := stint.Depths(b, place); !slices.Equal(l, depths) || h != api.Smooth {
			t.Errorf("Depths(%v, %d): %v, %v, want %v", b, place, l, h, depths)
		}
		want := reach(slices.Min(stays), slices.Max(stays))
		if x, h := stint.Stays(b, place); x != want || h != api.Smooth {
			t.Errorf("Stays(%v, %d): %v, %v, want %v", b, place, x, h, want)
		}
	}
}

// checkMay checks who may do what, and a few rotas.
func checkMay(t *testing.T, r *rand.Rand, b api.StintBook, cases [][]int) {
	t.Helper()
	for man := range b.Men {
		for dive := range b.Dives {
			want := model.Known(cases, func(depths []int) bool { return modelMay(b, depths, man, dive) })
			if u, h := stint.May(b, man, dive); u != want || h != api.Smooth {
				t.Errorf("May(%v, %d, %d): %v, %v, want %v", b, man, dive, u, h, want)
			}
		}
	}
	for range 10 {
		x, ok := randomRota(r, b)
		if !ok {
			return
		}
		want := model.Known(cases, func(depths []int) bool { return modelGood(b, depths, x) })
		if u, h := stint.Good(b, x); u != want || h != api.Smooth {
			t.Errorf("Good(%v, %v): %v, %v, want %v", b, x, u, h, want)
		}
	}
}

// checkRotas checks how many rotas there are, and which are the best ones.
func checkRotas(t *testing.T, b api.StintBook, cases [][]int) {
	t.Helper()
	all := goodRotas(b, cases)
	if n, h := stint.Rotas(b); n != len(all) || h != api.Smooth {
		t.Errorf("Rotas(%v): %d, %v, want %d", b, n, h, len(all))
	}
	var first, fair [][]int
	ticks := 0
	for i, x := range all {
		if i == 0 {
			first = x
		}
		if n := modelBusiest(b, x); i == 0 || n < ticks {
			fair, ticks = x, n
		}
	}
	if l, found, h := stint.First(b); !sameRotas(l, first) || found != (len(all) > 0) || h != api.Smooth {
		t.Errorf("First(%v): %v, %v, %v, want %v", b, l, found, h, first)
	}
	if l, n, found, h := stint.Fair(b); !sameRotas(l, fair) || n != ticks || found != (len(all) > 0) || h != api.Smooth {
		t.Errorf("Fair(%v): %v, %d, %v, %v, want %v, %d", b, l, n, found, h, fair, ticks)
	}
}

// checkFewest checks the fewest men, and the fewest dives that are dropped.
func checkFewest(t *testing.T, b api.StintBook, cases [][]int) {
	t.Helper()
	men, found := model.FewestOf(len(b.Men), func(l []int) bool { return len(goodRotas(crewed(b, l), cases)) > 0 })
	if l, is, h := stint.Crew(b); !slices.Equal(l, men) || is != found || h != api.Smooth {
		t.Errorf("Crew(%v): %v, %v, %v, want %v, %v", b, l, is, h, men, found)
	}
	dives, _ := model.FewestOf(len(b.Dives), func(l []int) bool { return len(goodRotas(dropped(b, l), cases)) > 0 })
	if l, h := stint.Drop(b); !slices.Equal(l, dives) || h != api.Smooth {
		t.Errorf("Drop(%v): %v, %v, want %v", b, l, h, dives)
	}
}

// checkAsk checks what is to be sounded.
func checkAsk(t *testing.T, b api.StintBook, cases [][]int) {
	t.Helper()
	place, line, fewest := -1, -1, len(cases)
	for i := range b.Places {
		for n := range api.MaxStintDepth + 1 {
			touch := 0
			for _, depths := range cases {
				if depths[i] <= n {
					touch++
				}
			}
			if most := max(touch, len(cases)-touch); most < fewest {
				place, line, fewest = i, n, most
			}
		}
	}
	if i, n, left, h := stint.Ask(b); i != place || n != line || left != fewest || h != api.Smooth {
		t.Errorf("Ask(%v): %d, %d, %d, %v, want %d, %d, %d", b, i, n, left, h, place, line, fewest)
	}
}

func TestAsk(t *testing.T) {
	// The first place of several, and the shortest line.
	twice, wide, second := bookT(), bookT(), bookT()
	twice.Places[1] = reach(14, 16)
	wide.Places = []api.Reach{reach(9, 11), reach(1, 2)}
	second.Places = []api.Reach{one(9), one(1), reach(29, 30)}
	full := sounded(bookT(), touched(0, 30), touched(0, 30), free(0, 0))
	for i, x := range []struct {
		b                 api.StintBook
		place, line, left int
	}{
		{bookT(), 0, 9, 2}, {bookU(), 0, 9, 1}, {sounded(bookT(), free(0, 9)), 0, 10, 1}, {twice, 0, 9, 6}, {wide, 1, 1, 3}, {second, 2, 29, 1}, {full, 0, 9, 2},
		{sounded(bookT(), free(0, 10)), -1, -1, 1}, {sounded(twice, free(0, 10), touched(1, 14)), -1, -1, 1}, {sounded(twice, free(0, 10)), 1, 14, 2},
	} {
		if place, line, left, h := stint.Ask(x.b); place != x.place || line != x.line || left != x.left || h != api.Smooth {
			t.Errorf("%d: %d, %d, %d, %v", i, place, line, left, h)
		}
	}
}

func TestClash(t *testing.T) {
	for i, x := range []struct {
		b    api.StintBook
		want []int
	}{
		{bookT(), nil}, {bookU(), nil}, {adriftBook(), []int{1}},
		{sounded(bookU(), free(0, 9), free(0, 10)), []int{0, 2}},
		{sounded(bookT(), free(0, 10), touched(0, 10), touched(0, 9)), []int{0, 1}},
		{sounded(bookT(), free(0, 9), touched(0, 10), free(0, 10)), []int{1, 2}},
		{sounded(bookT(), free(0, 9), free(1, 15), touched(0, 9)), []int{1}},
		{sounded(bookT(), free(1, 20), touched(0, 8), free(0, 11)), []int{0}},
	} {
		if l, h := stint.Clash(x.b); !slices.Equal(l, x.want) || h != api.Smooth {
			t.Errorf("%d: %v, %v", i, l, h)
		}
	}
}

func TestClashAsReckonedOtherwise(t *testing.T) {
	clashed := map[int]int{}
	eachRandom(500, func(r *rand.Rand, b api.StintBook) {
		b = soundedAtRandom(r, b)
		few, _ := model.FewestOf(len(b.Soundings), func(l []int) bool { return len(modelCases(only(b, l))) == 0 })
		clashed[len(few)]++
		if l, h := stint.Clash(b); !slices.Equal(l, few) || h != api.Smooth {
			t.Errorf("Clash(%v): %v, %v, want %v", b, l, h, few)
		}
	})
	if clashed[1] < 10 || clashed[2] < 10 {
		t.Errorf("so many books by how many soundings clash: %v", clashed)
	}
}

func TestSound(t *testing.T) {
	full := sounded(bookT(), free(0, 9), free(0, 9), free(0, 9))
	for i, x := range []struct {
		b    api.StintBook
		s    api.StintSounding
		want api.Hitch
	}{
		{bookT(), touched(0, 10), api.Smooth}, {bookT(), free(1, 14), api.Smooth}, {bookT(), touched(1, 30), api.Smooth}, {bookT(), free(0, 0), api.Smooth}, {bookU(), free(0, 9), api.Smooth}, {sounded(bookU(), free(0, 9)), touched(0, 10), api.Smooth},
		{bookT(), touched(1, 14), api.Adrift}, {bookT(), free(1, 15), api.Adrift}, {bookU(), touched(0, 8), api.Adrift}, {bookU(), free(0, 10), api.Adrift}, {adriftBook(), touched(0, 30), api.Adrift},
		{bookT(), touched(2, 31), api.Missing}, {bookT(), touched(-1, 5), api.Missing}, {bookT(), touched(math.MinInt, 5), api.Missing}, {adriftBook(), touched(2, 31), api.Missing}, {bookT(), free(0, 31), api.Bounds}, {bookT(), free(0, -1), api.Bounds}, {adriftBook(), free(0, math.MaxInt), api.Bounds},
		{full, free(0, 9), api.Number}, {full, free(2, 31), api.Number}, {full, touched(0, 0), api.Number}, {rested(full, 61), free(0, 9), api.Bounds},
	} {
		o, h := stint.Sound(x.b, x.s)
		if h != x.want || h != api.Smooth && !isZero(o) {
			t.Errorf("%d: %v, %v", i, o, h)
		}
		if h == api.Smooth && !equal(o, sounded(x.b, x.s)) {
			t.Errorf("%d: %v", i, o)
		}
	}
}

// tabled returns a book with another table.
func tabled(b api.StintBook, rows ...api.StintRow) api.StintBook {
	b = clone(b)
	b.Rows = rows
	return b
}

func TestAccident(t *testing.T) {
	full := tabled(bookU(), row(10, 40), row(20, 20), row(25, 10), row(30, 5))
	for i, x := range []struct {
		b           api.StintBook
		depth, stay int
		want        []api.StintRow
	}{
		{bookU(), 12, 15, []api.StintRow{row(10, 40), row(12, 15), row(20, 15)}}, {adriftBook(), 12, 15, []api.StintRow{row(10, 40), row(12, 15), row(20, 15)}},
		{bookT(), 10, 30, []api.StintRow{row(10, 30), row(20, 20)}}, {bookT(), 10, 15, []api.StintRow{row(10, 15), row(20, 15)}}, {bookT(), 10, 40, bookT().Rows}, {bookT(), 20, 20, bookT().Rows}, {bookT(), 20, 1, []api.StintRow{row(10, 40), row(20, 1)}},
		{bookT(), 1, 40, []api.StintRow{row(1, 40), row(10, 40), row(20, 20)}}, {bookT(), 1, 1, []api.StintRow{row(1, 1), row(10, 1), row(20, 1)}}, {bookT(), 5, 30, []api.StintRow{row(5, 30), row(10, 30), row(20, 20)}}, {bookT(), 11, 20, []api.StintRow{row(10, 40), row(11, 20), row(20, 20)}}, {bookT(), 19, 20, []api.StintRow{row(10, 40), row(19, 20), row(20, 20)}},
		{full, 20, 15, []api.StintRow{row(10, 40), row(20, 15), row(25, 10), row(30, 5)}}, {full, 10, 7, []api.StintRow{row(10, 7), row(20, 7), row(25, 7), row(30, 5)}}, {full, 30, 1, []api.StintRow{row(10, 40), row(20, 20), row(25, 10), row(30, 1)}},
		{tabled(bookT(), full.Rows[:3]...), 4, 40, []api.StintRow{row(4, 40), row(10, 40), row(20, 20), row(25, 10)}},
	} {
		if o, h := stint.Accident(x.b, x.depth, x.stay); !equal(o, tabled(x.b, x.want...)) || h != api.Smooth {
			t.Errorf("%d: %v, %v", i, o, h)
		}
	}
	for i, x := range []struct {
		b           api.StintBook
		depth, stay int
		want        api.Hitch
	}{
		{bookT(), 0, 1, api.Bounds}, {bookT(), 31, 1, api.Bounds}, {bookT(), 5, 0, api.Bounds}, {bookT(), 5, 61, api.Bounds}, {bookT(), math.MinInt, math.MaxInt, api.Bounds}, {bookT(), 30, 0, api.Bounds}, {full, 31, 61, api.Bounds},
		{bookT(), 5, 41, api.Crossed}, {bookT(), 10, 41, api.Crossed}, {bookT(), 11, 21, api.Crossed}, {bookT(), 21, 1, api.Crossed}, {bookT(), 30, 60, api.Crossed}, {full, 12, 21, api.Crossed}, {adriftBook(), 5, 41, api.Crossed},
		{full, 12, 20, api.Number}, {full, 12, 1, api.Number}, {full, 1, 40, api.Number}, {full, 29, 5, api.Number}, {rested(full, -1), 12, 20, api.Bounds}, {api.StintBook{}, 0, 0, api.Number},
	} {
		if o, h := stint.Accident(x.b, x.depth, x.stay); !isZero(o) || h != x.want {
			t.Errorf("%d: %v, %v", i, o, h)
		}
	}
	o, _ := stint.Accident(bookU(), 12, 15)
	if l, h := stint.Drop(o); len(l) > 0 || h != api.Smooth {
		t.Errorf("%v, %v", l, h)
	}
	if n, h := stint.Stay(o, 12); n != 15 || h != api.Smooth {
		t.Errorf("%d, %v", n, h)
	}
}

const (
	bareT = "stint 10\nrow 10 40\nrow 20 20\nplace 9:11\nplace 15\nman ann 20\nman bo 12\n"
	textT = bareT + "dive 0 0 20 2\ndive 1 30 15 1\ndive 0 60 30 1\n"
	textU = textT + "sounding 0 10 yes\n"
	small = "stint 0\nrow 9 9\nplace 5\nman a 9\ndive 0 0 9 1\n"
)

func TestPrint(t *testing.T) {
	big := easy(60, []string{"abcdefghijkl"}, dive(200, 60, 3))
	big.Rows = []api.StintRow{row(1, 60), row(30, 1)}
	big.Places = []api.Reach{reach(28, 30), one(1)}
	big.Soundings = []api.StintSounding{free(1, 0), touched(0, 30)}
	for want, b := range map[string]api.StintBook{
		textT: bookT(), textU: bookU(), textU + "sounding 0 8 yes\n": adriftBook(), textT + "sounding 1 0 no\n": sounded(bookT(), free(1, 0)),
		"stint 60\nrow 1 60\nrow 30 1\nplace 28:30\nplace 1\nman abcdefghijkl 30\ndive 0 200 60 3\nsounding 1 0 no\nsounding 0 30 yes\n": big,
		small: {Rows: []api.StintRow{row(9, 9)}, Places: []api.Reach{one(5)}, Men: []api.StintMan{{Name: "a", Deepest: 9}}, Dives: []api.StintDive{dive(0, 9, 1)}},
	} {
		if s, h := stint.Print(b); s != want || h != api.Smooth {
			t.Errorf("%q, %v, want %q", s, h, want)
		}
		if o, n, h := stint.Parse(want); !equal(o, b) || n != 0 || h != api.Smooth {
			t.Errorf("%q: %v, %d, %v", want, o, n, h)
		}
	}
	if s, h := stint.Print(api.StintBook{}); s != "" || h != api.Number {
		t.Errorf("%q, %v", s, h)
	}
}

func TestParseWrongLines(t *testing.T) {
	for s, line := range map[string]int{
		"": 0, "\n": 1, "\n" + small: 1, "stint": 1, "stint\n": 1, "stint 0 0\n": 1, "stint x\n": 1, "stint 00\n": 1, "stint 0:1\n": 1, "stint -\n": 1, "stint  0\n": 1, " stint 0\n": 1, "stint 0 \n": 1, "Stint 0\n": 1, "stint 0\r\n": 1, "stint 1234567890\n": 1, "stints 0\n": 1,
		"row 9 9\n": 1, "place 5\n": 1, "man a 9\n": 1, "dive 0 0 9 1\n": 1, "sounding 0 5 yes\n": 1, "row 9 9\nstint 0\n": 1,
		"stint 0\nstint 0\n": 2, "stint 0\n\n": 2, "stint 0\nrow 9\n": 2, "stint 0\nrow 9 9 9\n": 2, "stint 0\nrow x 9\n": 2, "stint 0\nrow 9 x\n": 2, "stint 0\nrow 9 9:10\n": 2, "stint 0\nrows 9 9\n": 2, "stint 0\nrow\n": 2, "stint 0\nwater 9 9\n": 2,
		"stint 0\nplace\n": 2, "stint 0\nplace 5 6\n": 2, "stint 0\nplace 5:5\n": 2, "stint 0\nplace x\n": 2, "stint 0\nplace 5:\n": 2, "stint 0\nplace 5,6\n": 2, "stint 0\nplace 5\nrow 9 9\n": 3, "stint 0\nplace 5\nstint 0\n": 3,
		"stint 0\nman\n": 2, "stint 0\nman a\n": 2, "stint 0\nman a 9 9\n": 2, "stint 0\nman a x\n": 2, "stint 0\nman a 09\n": 2, "stint 0\nman a 1:2\n": 2, "stint 0\nman  9\n": 2, "stint 0\nman a 9\nplace 5\n": 3, "stint 0\nman a 9\nrow 9 9\n": 3,
		small + small: 6, small + "\n": 6, small + "row 9 9\n": 6, small + "place 5\n": 6, small + "man b 9\n": 6, small + "dive\n": 6, small + "dive 0 0 9\n": 6, small + "dive 0 0 9 1 1\n": 6, small + "dive x 0 9 1\n": 6, small + "dive 0 x 9 1\n": 6, small + "dive 0 0 x 1\n": 6, small + "dive 0 0 9 x\n": 6, small + "dive 0 0:1 9 1\n": 6,
		small + "sounding\n": 6, small + "sounding 0 5\n": 6, small + "sounding 0 5 yes no\n": 6, small + "sounding x 5 yes\n": 6, small + "sounding 0 x yes\n": 6, small + "sounding 0 5 sure\n": 6, small + "sounding 0 5 Yes\n": 6, small + "sounding 0 5 1\n": 6, small + "soundings 0 5 yes\n": 6, small + "sounding  0 5 yes\n": 6,
		small + "sounding 0 5 yes\ndive 0 0 9 1\n": 7, small + "sounding 0 5 yes\nman b 9\n": 7, small + "sounding 0 5 yes\nstint 0\n": 7, "stint 99\nrow 0 0\nman 9 0\nman\n": 4, strings.Repeat("\n", api.MaxText): 1,
	} {
		if b, n, h := stint.Parse(s); !isZero(b) || n != line || h != api.Shape {
			t.Errorf("%.80q: %v, %d, %v, want line %d", s, b, n, h, line)
		}
	}
}

func TestParseHitches(t *testing.T) {
	for s, want := range map[string]api.Hitch{
		"stint 0\n":                                    api.Number,
		"stint 0":                                      api.Number,
		"stint 61":                                     api.Bounds,
		"stint -1\nrow 9 9\n":                          api.Bounds,
		"stint 999999999\n":                            api.Bounds,
		"stint 0\nrow 9 9\n":                           api.Number,
		"stint 0\nplace 5\n":                           api.Number,
		"stint 0\nsounding 0 5 yes\n":                  api.Number,
		"stint 0\nrow 9 0\n":                           api.Bounds,
		"stint 0\nrow 31 9\n":                          api.Bounds,
		"stint 0\nrow 9 9\nrow 9 9\n":                  api.Crossed,
		"stint 0\nrow 9 9\nrow 10 10\n":                api.Crossed,
		"stint 0\nrow 9 9\nplace 7:5\n":                api.Bounds,
		"stint 0\nrow 9 9\nplace 5:8\n":                api.Bounds,
		"stint 0\nrow 9 9\nplace 5\nman A 9\n":         api.Label,
		"stint 0\nrow 9 9\nplace 5\nman - 9\n":         api.Label,
		"stint 0\nrow 9 9\nplace 5\nman \xff 9":        api.Label,
		"stint 0\nrow 9 9\nplace 5\nman a 0\n":         api.Bounds,
		"stint 0\nrow 9 9\nplace 5\nman a 31":          api.Bounds,
		bareT:                                          api.Number,
		bareT + "man ann 9\n":                          api.Double,
		small + "dive 1 0 9 1\n":                       api.Missing,
		small + "dive -1 0 9 1\n":                      api.Missing,
		small + "dive 0 201 9 1\n":                     api.Bounds,
		small + "dive 0 0 61 1\n":                      api.Bounds,
		small + "dive 0 0 9 4\n":                       api.Bounds,
		small + "sounding 1 5 yes\n":                   api.Missing,
		small + "sounding 0 31 no\n":                   api.Bounds,
		textT + strings.Repeat(textU[len(textT):], 4):  api.Number,
		small + strings.Repeat("dive 0 0 9 1\n", 3000): api.Number,
		strings.Repeat("s", api.MaxText+1):             api.Number,
		strings.Repeat(textU, api.MaxText):             api.Number,
	} {
		if b, n, h := stint.Parse(s); !isZero(b) || n != 0 || h != want {
			t.Errorf("%.80q: %v, %d, %v", s, b, n, h)
		}
	}
	// A book without a case is read, with its last line feed or without it.
	if b, n, h := stint.Parse(textU + "sounding 0 8 yes"); !equal(b, adriftBook()) || n != 0 || h != api.Smooth {
		t.Errorf("%v, %d, %v", b, n, h)
	}
	// A text as long as the limit is read: its first line is wrong.
	if b, n, h := stint.Parse(strings.Repeat("s", api.MaxText)); !isZero(b) || n != 1 || h != api.Shape {
		t.Errorf("%v, %d, %v", b, n, h)
	}
}
