package finds_test

import (
	"math"
	"math/rand"
	"slices"
	"strings"
	"testing"

	"lagan/api"
	"lagan/finds"
	"lagan/model"
)

// Tests of P9.1 to P9.5: what each function returns.

const (
	unsure = api.Unsure
	surely = api.Surely
	never  = api.Never
)

func TestCheckBook(t *testing.T) {
	for name, x := range map[string]struct {
		change func(b *api.FindsBook)
		want   api.Hitch
	}{
		"F":                           {func(b *api.FindsBook) {}, api.Smooth},
		"no strays":                   {func(b *api.FindsBook) { b.Strays = 0 }, api.Smooth},
		"three strays":                {func(b *api.FindsBook) { b.Strays = 3 }, api.Smooth},
		"four strays":                 {func(b *api.FindsBook) { b.Strays = 4 }, api.Bounds},
		"strays below":                {func(b *api.FindsBook) { b.Strays = -1 }, api.Bounds},
		"any strays":                  {func(b *api.FindsBook) { b.Strays = math.MinInt }, api.Bounds},
		"no lines":                    {func(b *api.FindsBook) { b.Lines = nil }, api.Number},
		"one line":                    {func(b *api.FindsBook) { b.Lines = b.Lines[:1] }, api.Smooth},
		"five lines":                  {func(b *api.FindsBook) { b.Lines = widest().Lines }, api.Smooth},
		"six lines":                   {func(b *api.FindsBook) { b.Lines = append(b.Lines, b.Lines...) }, api.Number},
		"last ship":                   {func(b *api.FindsBook) { b.Lines[1].Ship = 2 }, api.Smooth},
		"ship above":                  {func(b *api.FindsBook) { b.Lines[1].Ship = 3 }, api.Bounds},
		"ship below":                  {func(b *api.FindsBook) { b.Lines[1].Ship = -1 }, api.Bounds},
		"any ship":                    {func(b *api.FindsBook) { b.Lines[1].Ship = math.MaxInt }, api.Bounds},
		"one letter":                  {func(b *api.FindsBook) { b.Lines[1].Mark = "a" }, api.Smooth},
		"four letters":                {func(b *api.FindsBook) { b.Lines[1].Mark = "azaz" }, api.Smooth},
		"five letters":                {func(b *api.FindsBook) { b.Lines[1].Mark = "abcde" }, api.Shape},
		"no letter":                   {func(b *api.FindsBook) { b.Lines[1].Mark = "" }, api.Shape},
		"a worn line":                 {func(b *api.FindsBook) { b.Lines[1].Mark = "a?" }, api.Shape},
		"a great letter":              {func(b *api.FindsBook) { b.Lines[1].Mark = "aB" }, api.Shape},
		"a digit":                     {func(b *api.FindsBook) { b.Lines[1].Mark = "a1" }, api.Shape},
		"before a":                    {func(b *api.FindsBook) { b.Lines[1].Mark = "a`" }, api.Shape},
		"behind z":                    {func(b *api.FindsBook) { b.Lines[1].Mark = "a{" }, api.Shape},
		"two bytes of a letter":       {func(b *api.FindsBook) { b.Lines[1].Mark = "\u00e4" }, api.Shape},
		"any bytes":                   {func(b *api.FindsBook) { b.Lines[1].Mark = "\xff\x00" }, api.Shape},
		"a line twice":                {func(b *api.FindsBook) { b.Lines[1].Mark = "ab" }, api.Double},
		"a line of an earlier one":    {func(b *api.FindsBook) { b.Lines[2].Ship = 0 }, api.Double},
		"a mark of another ship":      {func(b *api.FindsBook) { b.Lines[2].Mark = "ac" }, api.Smooth},
		"another count":               {func(b *api.FindsBook) { b.Lines[1] = line(0, "ab", 3) }, api.Double},
		"no things":                   {func(b *api.FindsBook) { b.Lines[1].Count = 0 }, api.Bounds},
		"three things":                {func(b *api.FindsBook) { b.Lines[1].Count = 3 }, api.Smooth},
		"four things":                 {func(b *api.FindsBook) { b.Lines[1].Count = 4 }, api.Bounds},
		"any things":                  {func(b *api.FindsBook) { b.Lines[1].Count = math.MinInt }, api.Bounds},
		"no finds":                    {func(b *api.FindsBook) { b.Finds, b.Notes = nil, nil }, api.Smooth},
		"five finds":                  {func(b *api.FindsBook) { b.Finds = append(b.Finds, "zz", "????") }, api.Smooth},
		"six finds":                   {func(b *api.FindsBook) { b.Finds = append(b.Finds, b.Finds...) }, api.Number},
		"all worn":                    {func(b *api.FindsBook) { b.Finds[2] = "????" }, api.Smooth},
		"one worn letter":             {func(b *api.FindsBook) { b.Finds[2] = "?" }, api.Smooth},
		"five worn letters":           {func(b *api.FindsBook) { b.Finds[2] = "?????" }, api.Shape},
		"no mark":                     {func(b *api.FindsBook) { b.Finds[2] = "" }, api.Shape},
		"a find with a blank":         {func(b *api.FindsBook) { b.Finds[2] = "a c" }, api.Shape},
		"a find with a great letter":  {func(b *api.FindsBook) { b.Finds[2] = "A?" }, api.Shape},
		"a find with a digit":         {func(b *api.FindsBook) { b.Finds[2] = "?1" }, api.Shape},
		"a find of any bytes":         {func(b *api.FindsBook) { b.Finds[2] = "?\xff" }, api.Shape},
		"two finds alike":             {func(b *api.FindsBook) { b.Finds[1] = "a?" }, api.Smooth},
		"no notes":                    {func(b *api.FindsBook) { b.Notes = nil }, api.Smooth},
		"three notes":                 {func(b *api.FindsBook) { b.Notes = slices.Repeat(b.Notes, 3) }, api.Smooth},
		"four notes":                  {func(b *api.FindsBook) { b.Notes = slices.Repeat(b.Notes, 4) }, api.Number},
		"A is below":                  {func(b *api.FindsBook) { b.Notes[0].A = -1 }, api.Missing},
		"B is above":                  {func(b *api.FindsBook) { b.Notes[0].B = 3 }, api.Missing},
		"A is above":                  {func(b *api.FindsBook) { b.Notes[0] = same(3, 4) }, api.Missing},
		"any notes":                   {func(b *api.FindsBook) { b.Notes[0] = same(math.MinInt, math.MaxInt) }, api.Missing},
		"B is A":                      {func(b *api.FindsBook) { b.Notes[0].B = 0 }, api.Crossed},
		"B is below A":                {func(b *api.FindsBook) { b.Notes[0] = same(2, 1) }, api.Crossed},
		"the last find":               {func(b *api.FindsBook) { b.Notes[0] = other(1, 2) }, api.Smooth},
		"no case":                     {func(b *api.FindsBook) { b.Notes = append(b.Notes, other(0, 1)) }, api.Smooth},
		"fits nothing":                {func(b *api.FindsBook) { b.Finds = []string{"z", "z", "z"} }, api.Smooth},
		"strays, then lines":          {func(b *api.FindsBook) { b.Strays, b.Lines = 4, nil }, api.Bounds},
		"many lines, then what":       {func(b *api.FindsBook) { b.Lines = make([]api.FindsLine, 6) }, api.Number},
		"ship, then mark":             {func(b *api.FindsBook) { b.Lines[1] = line(3, "", 0) }, api.Bounds},
		"mark, then count":            {func(b *api.FindsBook) { b.Lines[1] = line(0, "", 0) }, api.Shape},
		"twice, then count":           {func(b *api.FindsBook) { b.Lines[1] = line(0, "ab", 0) }, api.Double},
		"count, then the next one":    {func(b *api.FindsBook) { b.Lines[0].Count, b.Lines[1].Mark = 0, "" }, api.Bounds},
		"mark, then the next ship":    {func(b *api.FindsBook) { b.Lines[0].Mark, b.Lines[1].Ship = "", 3 }, api.Shape},
		"lines, then finds":           {func(b *api.FindsBook) { b.Lines[2].Count, b.Finds = 0, make([]string, 6) }, api.Bounds},
		"many finds, then what":       {func(b *api.FindsBook) { b.Finds = make([]string, 6) }, api.Number},
		"finds, then notes":           {func(b *api.FindsBook) { b.Finds[0], b.Notes = "", make([]api.FindsNote, 4) }, api.Shape},
		"many notes, then what":       {func(b *api.FindsBook) { b.Notes = slices.Repeat([]api.FindsNote{same(9, 9)}, 4) }, api.Number},
		"missing, then crossed":       {func(b *api.FindsBook) { b.Notes[0] = same(3, 3) }, api.Missing},
		"missing, then crossed below": {func(b *api.FindsBook) { b.Notes[0] = same(0, -1) }, api.Missing},
		"crossed, then missing":       {func(b *api.FindsBook) { b.Notes = []api.FindsNote{same(1, 0), same(0, 9)} }, api.Crossed},
	} {
		b := bookF()
		x.change(&b)
		if h := finds.CheckBook(b); h != x.want {
			t.Errorf("%s: %v, want %v", name, h, x.want)
		}
	}
}

func TestFits(t *testing.T) {
	for find, fits := range [][]bool{{true, true, true}, {true, false, true}, {false, true, false}} {
		for _, b := range []api.FindsBook{bookF(), adriftBook()} {
			for line, want := range fits {
				if is, h := finds.Fits(b, find, line); is != want || h != api.Smooth {
					t.Errorf("%d, %d: %v, %v", find, line, is, h)
				}
			}
		}
	}
	for mark, fitting := range map[string][]string{
		"a": {"a", "?"}, "abc": {"abc", "a?c", "??c", "???", "?b?"}, "zzzz": {"zzzz", "????", "z??z"},
	} {
		for _, found := range []string{"a", "b", "?", "aa", "??", "a?", "abc", "acb", "a?c", "b?c", "??c", "??b", "???", "?b?", "zzz", "zzzz", "????", "z??z", "z??y", "y???"} {
			b := brought(listed(plain(), line(0, mark, 1)), found)
			if is, h := finds.Fits(b, 0, 0); is != slices.Contains(fitting, found) || h != api.Smooth {
				t.Errorf("%s, %s: %v, %v", mark, found, is, h)
			}
		}
	}
	eachRandom(200, func(_ *rand.Rand, b api.FindsBook) {
		for find, found := range b.Finds {
			for line, l := range b.Lines {
				if is, h := finds.Fits(b, find, line); is != modelFits(found, l.Mark) || h != api.Smooth {
					t.Errorf("Fits(%v, %d, %d): %v, %v", b, find, line, is, h)
				}
			}
		}
	})
}

func TestIsCase(t *testing.T) {
	twoStrays := allowing(bookF(), 2)
	for i, x := range []struct {
		b     api.FindsBook
		lines []int
		want  bool
	}{
		{bookF(), []int{0, 0, 1}, true}, {bookF(), []int{0, 0, -1}, true}, {bookF(), []int{1, 0, -1}, true},
		// A line with too many finds, a find that does not fit, notes that are wrong, too many strays.
		{bookF(), []int{1, 0, 1}, false}, {bookF(), []int{2, 2, 1}, false}, {bookF(), []int{0, 1, -1}, false}, {bookF(), []int{0, 0, 0}, false}, {bookF(), []int{0, 0, 2}, false}, {bookF(), []int{2, 0, 1}, false}, {bookF(), []int{0, 2, 1}, false}, {bookF(), []int{-1, 0, 1}, false}, {bookF(), []int{-1, -1, 1}, false}, {bookF(), []int{-1, -1, -1}, false},
		// A stray is not of the same ship as another one.
		{twoStrays, []int{-1, -1, 1}, false}, {twoStrays, []int{-1, 0, 1}, false}, {noted(twoStrays, other(0, 1)), []int{-1, -1, 1}, true}, {noted(twoStrays, other(0, 1)), []int{-1, -1, -1}, false}, {noted(twoStrays, other(0, 1)), []int{-1, 0, 1}, true}, {noted(twoStrays, other(0, 1)), []int{0, -1, -1}, true}, {noted(twoStrays, other(0, 1)), []int{0, 0, 1}, false},
		// Finds of two lines of a ship are of the same one, those of two ships with a mark are not.
		{noted(plain(), same(0, 2)), []int{0, 2, 1}, true}, {noted(plain(), other(0, 2)), []int{0, 2, 1}, false}, {noted(plain(), same(0, 1)), []int{0, 2, 1}, false}, {noted(plain(), other(0, 1)), []int{0, 2, 1}, true}, {noted(plain(), other(0, 1), other(1, 2)), []int{0, 2, 1}, true}, {noted(plain(), other(0, 1), same(1, 2)), []int{0, 2, 1}, false}, {noted(plain(), other(0, 1), same(1, 2)), []int{2, 0, 1}, true},
		{plain(), []int{-1, 0, 1}, true}, {plain(), []int{0, -1, 1}, true}, {plain(), []int{0, 2, -1}, true}, {plain(), []int{-1, -1, 1}, false}, {allowing(plain(), 0), []int{0, 0, -1}, false}, {allowing(plain(), 3), []int{-1, -1, -1}, true},
		{adriftBook(), []int{0, 0, 1}, false}, {adriftBook(), []int{0, 2, 1}, false}, {lacking(), []int{0}, false}, {lacking(), []int{-1}, false}, {allowing(lacking(), 1), []int{-1}, true}, {brought(plain()), nil, true}, {brought(plain()), []int{}, true},
		{three(), []int{0, 0, 0}, true}, {three(), []int{1, 0, 1}, true}, {widest(), []int{0, 0, 0, 3, 3}, true}, {widest(), []int{0, 0, 0, 0, 3}, false}, {widest(), []int{-1, -1, -1, 4, 0}, true}, {widest(), []int{-1, -1, -1, -1, 0}, false},
	} {
		if is, h := finds.IsCase(x.b, x.lines); is != x.want || h != api.Smooth {
			t.Errorf("%d: %v, %v", i, is, h)
		}
	}
	is, not := 0, 0
	eachRandom(300, func(r *rand.Rand, b api.FindsBook) {
		all, cases := modelAll(b), modelCases(b)
		for range 20 {
			lines := all[r.Intn(len(all))]
			if len(cases) > 0 && r.Intn(2) == 0 {
				lines = cases[r.Intn(len(cases))]
			}
			want := modelIs(b, lines)
			if x, h := finds.IsCase(b, lines); x != want || h != api.Smooth {
				t.Fatalf("IsCase(%v, %v): %v, %v", b, lines, x, h)
			}
			if want {
				is++
			} else {
				not++
			}
		}
	})
	if is < 1000 || not < 1000 {
		t.Errorf("%d cases, %d others", is, not)
	}
}

func TestCaseHitches(t *testing.T) {
	for i, x := range []struct {
		b     api.FindsBook
		lines []int
		want  api.Hitch
	}{
		{bookF(), nil, api.Number}, {bookF(), []int{0, 0}, api.Number}, {bookF(), []int{0, 0, 1, 1}, api.Number}, {bookF(), []int{9, -9}, api.Number}, {brought(plain()), []int{0}, api.Number}, {adriftBook(), []int{0}, api.Number}, {bookF(), []int{-1, -1, -1, -1, -1, -1}, api.Number},
		{bookF(), []int{0, 0, 3}, api.Missing}, {bookF(), []int{-2, 0, 1}, api.Missing}, {bookF(), []int{0, math.MinInt, 1}, api.Missing}, {bookF(), []int{0, math.MaxInt, 1}, api.Missing}, {adriftBook(), []int{0, 0, 5}, api.Missing}, {lacking(), []int{1}, api.Missing},
		{api.FindsBook{}, nil, api.Number}, {allowing(bookF(), 4), nil, api.Bounds}, {allowing(bookF(), 4), []int{9, 9, 9}, api.Bounds},
	} {
		if is, h := finds.IsCase(x.b, x.lines); is || h != x.want {
			t.Errorf("%d: %v, %v, want %v", i, is, h, x.want)
		}
	}
}

// told is what is told of a book: of each find its lines, and whether it is of the ships 0 and 1, and a stray; of the lines and the ships how many finds there are; and the finds of the ship 0, and its things.
type told struct {
	cases         int
	lines         [][]int
	of            [][]api.Known
	many, total   []api.Reach
	sure, perhaps []int
	lost          api.Reach
}

// tell asks a book all that it tells.
func tell(t *testing.T, b api.FindsBook) told {
	t.Helper()
	x := told{cases: mustCases(t, b)}
	var hitches [9]api.Hitch
	for find := range b.Finds {
		var l []int
		known := make([]api.Known, 3)
		l, hitches[0] = finds.Lines(b, find)
		known[0], hitches[1] = finds.Of(b, find, 0)
		known[1], hitches[2] = finds.Of(b, find, 1)
		known[2], hitches[3] = finds.Stray(b, find)
		x.lines, x.of = append(x.lines, l), append(x.of, known)
	}
	for line := range b.Lines {
		var r api.Reach
		r, hitches[4] = finds.Many(b, line)
		x.many = append(x.many, r)
	}
	for ship := range 3 {
		var r api.Reach
		r, hitches[5] = finds.Total(b, ship)
		x.total = append(x.total, r)
	}
	x.sure, x.perhaps, hitches[6] = finds.Ours(b)
	x.lost, hitches[7] = finds.Lost(b)
	if hitches != [9]api.Hitch{} {
		t.Errorf("%v: %v", b, hitches)
	}
	return x
}

func (x told) is(o told) bool {
	lists := slices.EqualFunc(x.lines, o.lines, slices.Equal[[]int])
	known := slices.EqualFunc(x.of, o.of, slices.Equal[[]api.Known])
	numbers := x.cases == o.cases && slices.Equal(x.many, o.many) && slices.Equal(x.total, o.total) && x.lost == o.lost
	return lists && known && numbers && slices.Equal(x.sure, o.sure) && slices.Equal(x.perhaps, o.perhaps)
}

func TestCasesOfF(t *testing.T) {
	none := one(0)
	for i, x := range []struct {
		b    api.FindsBook
		want told
	}{
		{bookF(), told{3, [][]int{{0, 1}, {0}, {-1, 1}}, [][]api.Known{{surely, never, never}, {surely, never, never}, {unsure, never, unsure}}, []api.Reach{reach(1, 2), reach(0, 1), none}, []api.Reach{reach(2, 3), none, none}, []int{0, 1}, []int{2}, reach(0, 1)}},
		{plain(), told{12, [][]int{{-1, 0, 1, 2}, {-1, 0, 2}, {-1, 1}}, [][]api.Known{{unsure, unsure, unsure}, {unsure, unsure, unsure}, {unsure, never, unsure}}, []api.Reach{reach(0, 2), reach(0, 1), reach(0, 1)}, []api.Reach{reach(1, 3), reach(0, 1), none}, nil, []int{0, 1, 2}, reach(0, 2)}},
		{allowing(plain(), 0), told{3, [][]int{{0, 2}, {0, 2}, {1}}, [][]api.Known{{unsure, unsure, never}, {unsure, unsure, never}, {surely, never, never}}, []api.Reach{reach(1, 2), one(1), reach(0, 1)}, []api.Reach{reach(2, 3), reach(0, 1), none}, []int{2}, []int{0, 1}, reach(0, 1)}},
		{allowing(bookF(), 0), told{1, [][]int{{0}, {0}, {1}}, [][]api.Known{{surely, never, never}, {surely, never, never}, {surely, never, never}}, []api.Reach{one(2), one(1), none}, []api.Reach{one(3), none, none}, []int{0, 1, 2}, nil, none}},
		{noted(bookF(), same(0, 1), other(0, 2)), told{2, [][]int{{0, 1}, {0}, {-1}}, [][]api.Known{{surely, never, never}, {surely, never, never}, {never, never, surely}}, []api.Reach{reach(1, 2), reach(0, 1), none}, []api.Reach{one(2), none, none}, []int{0, 1}, nil, one(1)}},
		{noted(allowing(bookF(), 0), other(0, 1)), told{2, [][]int{{0, 2}, {0, 2}, {1}}, [][]api.Known{{unsure, unsure, never}, {unsure, unsure, never}, {surely, never, never}}, []api.Reach{one(1), one(1), one(1)}, []api.Reach{one(2), one(1), none}, []int{2}, []int{0, 1}, one(1)}},
		// Nothing came up, or strays alone, or nothing of the ship 0, or all of it.
		{brought(plain()), told{1, nil, nil, []api.Reach{none, none, none}, []api.Reach{none, none, none}, nil, nil, one(3)}},
		{brought(plain(), "zz"), told{1, [][]int{{-1}}, [][]api.Known{{never, never, surely}}, []api.Reach{none, none, none}, []api.Reach{none, none, none}, nil, nil, one(3)}},
		{brought(listed(plain(), line(1, "a", 1), line(2, "b", 1)), "?"), told{3, [][]int{{-1, 0, 1}}, [][]api.Known{{never, unsure, unsure}}, []api.Reach{reach(0, 1), reach(0, 1)}, []api.Reach{none, reach(0, 1), reach(0, 1)}, nil, nil, none}},
		{three(), told{8, [][]int{{0, 1}, {0, 1}, {0, 1}}, [][]api.Known{{unsure, unsure, never}, {unsure, unsure, never}, {unsure, unsure, never}}, []api.Reach{reach(0, 3), reach(0, 3)}, []api.Reach{reach(0, 3), reach(0, 3), none}, nil, []int{0, 1, 2}, reach(0, 3)}},
	} {
		if got := tell(t, x.b); !got.is(x.want) {
			t.Errorf("%d: %v, want %v", i, got, x.want)
		}
	}
}

func TestAtTheLimits(t *testing.T) {
	b := widest()
	// Of all 6^5 lists there are none with four strays or more, nor with four finds or more of a line.
	if n := mustCases(t, b); n != 7776-6*(5*5+1) {
		t.Errorf("Cases: %d", n)
	}
	if r, h := finds.Total(b, 0); r != reach(0, 5) || h != api.Smooth {
		t.Errorf("Total: %v, %v", r, h)
	}
	if r, h := finds.Many(b, 3); r != reach(0, 3) || h != api.Smooth {
		t.Errorf("Many: %v, %v", r, h)
	}
	if r, h := finds.Lost(b); r != reach(1, 6) || h != api.Smooth {
		t.Errorf("Lost: %v, %v", r, h)
	}
	full := noted(b, same(0, 1), same(1, 2), other(0, 2))
	if l, h := finds.Clash(full); !slices.Equal(l, []int{0, 1, 2}) || h != api.Smooth {
		t.Errorf("Clash: %v, %v", l, h)
	}
	if strays, found, h := finds.Fewest(full); strays != 0 || found || h != api.Smooth {
		t.Errorf("Fewest: %d, %v, %v", strays, found, h)
	}
	find, place, left := modelAsk(b, modelCases(b))
	if i, k, n, h := finds.Ask(b); i != find || k != place || n != left || h != api.Smooth {
		t.Errorf("Ask: %d, %d, %d, %v, want %d, %d, %d", i, k, n, h, find, place, left)
	}
}

func TestAllAsReckonedOtherwise(t *testing.T) {
	adrift := 0
	seen := map[string]int{}
	eachRandom(400, func(r *rand.Rand, b api.FindsBook) {
		cases := modelCases(b)
		if n := mustCases(t, b); n != len(cases) {
			t.Fatalf("Cases(%v): %d, want %d", b, n, len(cases))
		}
		checkStrays(t, b, seen)
		if len(cases) == 0 {
			adrift++
			checkAdrift(t, b)
			return
		}
		checkFinds(t, b, cases, seen)
		checkNumbers(t, b, cases)
		find, place, left := modelAsk(b, cases)
		if i, k, n, h := finds.Ask(b); i != find || k != place || n != left || h != api.Smooth {
			t.Errorf("Ask(%v): %d, %d, %d, %v, want %d, %d, %d", b, i, k, n, h, find, place, left)
		}
		seen["find "+string(rune('1'+find))]++
		seen["place "+string(rune('1'+place))]++
	})
	if adrift < 20 || adrift > 200 {
		t.Errorf("%d of 400 books have no case", adrift)
	}
	for _, what := range []string{"unsure", "surely", "never", "stray unsure", "stray surely", "stray never", "find 0", "find 1", "find 2", "place 1", "place 2", "strays 0", "strays 1", "strays 2", "not found", "several sure", "several perhaps"} {
		if seen[what] < 5 {
			t.Errorf("so much was seen: %v", seen)
		}
	}
}

// checkStrays checks how many strays there are at least.
func checkStrays(t *testing.T, b api.FindsBook, seen map[string]int) {
	t.Helper()
	strays, found := modelFewest(b)
	if n, is, h := finds.Fewest(b); n != strays || is != found || h != api.Smooth {
		t.Errorf("Fewest(%v): %d, %v, %v, want %d, %v", b, n, is, h, strays, found)
	}
	if found {
		seen["strays "+string(rune('0'+strays))]++
	} else {
		seen["not found"]++
	}
}

// checkAdrift checks what is told of a book that has no case.
func checkAdrift(t *testing.T, b api.FindsBook) {
	t.Helper()
	model.CheckZero(t, api.Adrift, questions(b)...)
	model.CheckZero(t, api.Adrift, withFind(b, 0)...)
	model.CheckZero(t, api.Adrift, withLine(b, 0)...)
	model.CheckZero(t, api.Adrift, withShip(b, 0, 2)...)
}

// checkFinds checks what is told of each find, and of all that are of the ship 0.
func checkFinds(t *testing.T, b api.FindsBook, cases [][]int, seen map[string]int) {
	t.Helper()
	words := map[api.Known]string{unsure: "unsure", surely: "surely", never: "never"}
	var sure, perhaps []int
	for find := range b.Finds {
		want := model.NumbersOf(cases, func(lines []int) int { return lines[find] })
		if l, h := finds.Lines(b, find); !slices.Equal(l, want) || h != api.Smooth {
			t.Errorf("Lines(%v, %d): %v, %v, want %v", b, find, l, h, want)
		}
		for ship := range 3 {
			want := model.Known(cases, func(lines []int) bool { return modelShip(b, lines, find) == ship })
			if u, h := finds.Of(b, find, ship); u != want || h != api.Smooth {
				t.Errorf("Of(%v, %d, %d): %v, %v, want %v", b, find, ship, u, h, want)
			}
			seen[words[want]]++
			switch {
			case ship == 0 && want == surely:
				sure = append(sure, find)
			case ship == 0 && want == unsure:
				perhaps = append(perhaps, find)
			}
		}
		strays := model.Known(cases, func(lines []int) bool { return lines[find] < 0 })
		if u, h := finds.Stray(b, find); u != strays || h != api.Smooth {
			t.Errorf("Stray(%v, %d): %v, %v, want %v", b, find, u, h, strays)
		}
		seen["stray "+words[strays]]++
	}
	if l, k, h := finds.Ours(b); !slices.Equal(l, sure) || !slices.Equal(k, perhaps) || h != api.Smooth {
		t.Errorf("Ours(%v): %v, %v, %v, want %v, %v", b, l, k, h, sure, perhaps)
	}
	if len(sure) > 1 {
		seen["several sure"]++
	}
	if len(perhaps) > 1 {
		seen["several perhaps"]++
	}
}

// checkNumbers checks how many finds are told to be of lines and of ships, and how many things to be lost.
func checkNumbers(t *testing.T, b api.FindsBook, cases [][]int) {
	t.Helper()
	for line := range b.Lines {
		want := modelSpan(cases, func(lines []int) int { return modelOf(b, lines, line) })
		if r, h := finds.Many(b, line); r != want || h != api.Smooth {
			t.Errorf("Many(%v, %d): %v, %v, want %v", b, line, r, h, want)
		}
	}
	for ship := range 3 {
		want := modelSpan(cases, func(lines []int) int { return modelOfShip(b, lines, ship) })
		if r, h := finds.Total(b, ship); r != want || h != api.Smooth {
			t.Errorf("Total(%v, %d): %v, %v, want %v", b, ship, r, h, want)
		}
	}
	want := modelSpan(cases, func(lines []int) int { return modelThings(b) - modelOfShip(b, lines, 0) })
	if r, h := finds.Lost(b); r != want || h != api.Smooth {
		t.Errorf("Lost(%v): %v, %v, want %v", b, r, h, want)
	}
}

func TestWhatIsNotThere(t *testing.T) {
	for _, b := range []api.FindsBook{bookF(), adriftBook()} {
		for _, i := range []int{-1, 3, 5, math.MinInt, math.MaxInt} {
			model.CheckZero(t, api.Missing, withFind(b, i)...)
			model.CheckZero(t, api.Missing, withLine(b, i)...)
			model.CheckZero(t, api.Missing, withShip(b, 0, i)...)
			model.CheckZero(t, api.Missing, func() (bool, api.Hitch) {
				is, h := finds.Fits(b, i, 0)
				return !is, h
			}, func() (bool, api.Hitch) {
				is, h := finds.Fits(b, 0, i)
				return !is, h
			}, func() (bool, api.Hitch) {
				o, h := finds.Clean(b, i, 9, "")
				return isZero(o), h
			})
		}
	}
	// There are three ships, however many lines and finds there are.
	b := brought(listed(plain(), line(0, "a", 1)), "a")
	model.CheckZero(t, api.Missing, withFind(b, 1)...)
	model.CheckZero(t, api.Missing, withLine(b, 1)...)
	if r, h := finds.Total(b, 2); r != one(0) || h != api.Smooth {
		t.Errorf("%v, %v", r, h)
	}
	if u, h := finds.Of(b, 0, 2); u != never || h != api.Smooth {
		t.Errorf("%v, %v", u, h)
	}
	model.CheckZero(t, api.Missing, withFind(brought(plain()), 0)...)
}

func TestFewest(t *testing.T) {
	two := listed(three(), line(0, "a", 1), line(1, "a", 1))
	for i, x := range []struct {
		b      api.FindsBook
		strays int
		found  bool
	}{
		{bookF(), 0, true}, {plain(), 0, true}, {adriftBook(), 0, false}, {lacking(), 1, true}, {brought(plain()), 0, true}, {three(), 0, true}, {widest(), 0, true}, {noted(bookF(), same(0, 1), other(0, 2)), 1, true}, {noted(bookF(), other(0, 1), other(0, 2)), 0, true},
		// However many are allowed, and more than can be.
		{allowing(bookF(), 0), 0, true}, {allowing(lacking(), 3), 1, true}, {brought(plain(), "z", "z"), 2, true}, {brought(allowing(plain(), 3), "z", "z", "z", "z", "z"), 5, true}, {brought(allowing(plain(), 0), "z", "z", "z", "z", "ab"), 4, true}, {allowing(noted(bookF(), same(0, 1), other(0, 2)), 0), 1, true},
		// A line has no more finds than its count.
		{two, 1, true}, {brought(two, "a", "a"), 0, true}, {brought(two, "a", "a", "?", "?", "?"), 3, true}, {noted(two, other(0, 1)), 1, true}, {noted(two, same(0, 1)), 0, false}, {noted(two, other(0, 1), other(1, 2)), 1, true}, {noted(three(), other(0, 1), other(1, 2), other(0, 2)), 1, true}, {noted(three(), other(0, 1), other(1, 2), same(0, 2)), 0, true}, {noted(three(), other(0, 1), same(1, 2), same(0, 2)), 0, false}, {noted(brought(three(), "a", "b", "a"), same(0, 1)), 0, false}, {noted(brought(three(), "a", "b", "a"), other(0, 1)), 1, true},
	} {
		if strays, found, h := finds.Fewest(x.b); strays != x.strays || found != x.found || h != api.Smooth {
			t.Errorf("%d: %d, %v, %v", i, strays, found, h)
		}
	}
}

func TestClash(t *testing.T) {
	for i, x := range []struct {
		b    api.FindsBook
		want []int
		h    api.Hitch
	}{
		{bookF(), nil, api.Smooth}, {plain(), nil, api.Smooth}, {brought(plain()), nil, api.Smooth}, {adriftBook(), []int{0, 1}, api.Smooth}, {noted(bookF(), other(0, 1), same(0, 1)), []int{0, 1}, api.Smooth}, {noted(bookF(), same(0, 1), same(0, 1), same(0, 1)), nil, api.Smooth}, {noted(bookF(), same(0, 1), same(0, 1), other(0, 1)), []int{0, 2}, api.Smooth}, {noted(bookF(), same(1, 2), other(0, 1), same(0, 1)), []int{1, 2}, api.Smooth},
		// One alone, all three, and all three with fewer of them.
		{noted(brought(plain(), "zz", "ab"), same(0, 1)), []int{0}, api.Smooth}, {noted(brought(plain(), "zz", "ab"), other(0, 1)), nil, api.Smooth}, {noted(brought(plain(), "zz", "ab"), other(0, 1), same(0, 1)), []int{1}, api.Smooth}, {noted(three(), same(0, 1), same(1, 2), other(0, 2)), []int{0, 1, 2}, api.Smooth}, {noted(three(), same(0, 1), same(1, 2), same(0, 2)), nil, api.Smooth}, {noted(three(), other(0, 1), other(1, 2), other(0, 2)), []int{0, 1, 2}, api.Smooth}, {noted(allowing(three(), 1), other(0, 1), other(1, 2), other(0, 2)), nil, api.Smooth}, {noted(three(), other(0, 1), other(1, 2), same(0, 2)), nil, api.Smooth}, {noted(listed(three(), line(0, "a", 3)), same(0, 1), other(1, 2), other(0, 2)), []int{1}, api.Smooth}, {noted(listed(three(), line(0, "a", 3)), other(0, 1), other(1, 2), other(0, 2)), []int{0}, api.Smooth},
		{lacking(), nil, api.Lacking}, {allowing(lacking(), 1), nil, api.Smooth}, {noted(brought(lacking(), "b", "b"), same(0, 1), other(0, 1)), nil, api.Lacking}, {noted(brought(allowing(lacking(), 2), "b", "b"), same(0, 1), other(0, 1)), []int{0}, api.Smooth}, {brought(three(), "a", "a", "a", "z"), nil, api.Lacking},
	} {
		if l, h := finds.Clash(x.b); !slices.Equal(l, x.want) || h != x.h {
			t.Errorf("%d: %v, %v", i, l, h)
		}
	}
}

// notesAtRandom returns a book with three notes, right or wrong, if it has two finds.
func notesAtRandom(r *rand.Rand, b api.FindsBook) api.FindsBook {
	b = noted(b)
	for range 3 {
		if len(b.Finds) > 1 {
			two := r.Perm(len(b.Finds))[:2]
			slices.Sort(two)
			b.Notes = append(b.Notes, api.FindsNote{A: two[0], B: two[1], Same: r.Intn(2) == 0})
		}
	}
	return b
}

func TestClashAsReckonedOtherwise(t *testing.T) {
	clashed, lack := map[int]int{}, 0
	eachRandom(400, func(r *rand.Rand, b api.FindsBook) {
		b = notesAtRandom(r, b)
		few, want := modelClash(b)
		if l, h := finds.Clash(b); !slices.Equal(l, few) || h != want {
			t.Errorf("Clash(%v): %v, %v, want %v, %v", b, l, h, few, want)
		}
		if want == api.Lacking {
			lack++
		} else {
			clashed[len(few)]++
		}
	})
	if clashed[0] < 10 || clashed[1] < 10 || clashed[2] < 10 || clashed[3] < 3 || lack < 10 {
		t.Errorf("so many books by how many notes clash: %v, and so many are lacking: %d", clashed, lack)
	}
}

func TestAsk(t *testing.T) {
	marks := func(strays int, found []string, marks ...string) api.FindsBook {
		b := api.FindsBook{Strays: strays, Finds: found}
		for i, mark := range marks {
			b.Lines = append(b.Lines, line(i%3, mark, 1))
		}
		return b
	}
	for i, x := range []struct {
		b                 api.FindsBook
		find, place, left int
	}{
		{bookF(), 0, 1, 2}, {plain(), 0, 1, 10}, {allowing(plain(), 0), -1, -1, 3}, {allowing(bookF(), 0), -1, -1, 1}, {brought(plain()), -1, -1, 1}, {brought(plain(), "zz"), -1, -1, 1}, {brought(plain(), "z?"), -1, -1, 1}, {noted(allowing(plain(), 0), other(0, 1)), -1, -1, 2},
		// The first find, and then the first place.
		{marks(0, []string{"??"}, "ab", "cd"), 0, 0, 1}, {marks(0, []string{"??"}, "ab", "ad"), 0, 1, 1}, {marks(0, []string{"??", "??"}, "ab", "cd"), 0, 0, 1}, {marks(0, []string{"ab", "??"}, "ab", "cb", "cd", "ce"), 1, 1, 1}, {marks(0, []string{"a?", "??"}, "ab", "cd", "ce"), 1, 1, 1}, {marks(0, []string{"???"}, "abc", "acb", "bba"), 0, 2, 1},
		// In the worst case: two of one letter, and one of another; strays stay whichever letter it is.
		{marks(0, []string{"??"}, "aa", "ab", "bc"), 0, 1, 1}, {marks(0, []string{"?"}, "a", "b", "c"), 0, 0, 1}, {marks(1, []string{"?"}, "a", "b"), 0, 0, 2}, {marks(1, []string{"?"}, "a"), -1, -1, 2}, {marks(1, []string{"??"}, "aa", "ab", "bc"), 0, 1, 2}, {marks(1, []string{"?z"}, "aa", "bb"), -1, -1, 1}, {marks(2, []string{"?", "?"}, "a", "b"), 0, 0, 5}, {marks(0, []string{"?a", "aa"}, "aa", "ba"), -1, -1, 1},
	} {
		if find, place, left, h := finds.Ask(x.b); find != x.find || place != x.place || left != x.left || h != api.Smooth {
			t.Errorf("%d: %d, %d, %d, %v", i, find, place, left, h)
		}
	}
}

func TestClean(t *testing.T) {
	for i, x := range []struct {
		b           api.FindsBook
		find, place int
		letter      string
		want        []string
		cases       int
	}{
		{bookF(), 0, 1, "c", []string{"ac", "?b", "ac"}, 1}, {bookF(), 0, 1, "b", []string{"ab", "?b", "ac"}, 2}, {bookF(), 1, 0, "a", []string{"a?", "ab", "ac"}, 3}, {plain(), 0, 1, "z", []string{"az", "?b", "ac"}, 2}, {plain(), 0, 1, "b", []string{"ab", "?b", "ac"}, 10}, {plain(), 1, 0, "a", []string{"a?", "ab", "ac"}, 12}, {brought(plain(), "????"), 0, 3, "q", []string{"???q"}, 1}, {brought(plain(), "????"), 0, 0, "a", []string{"a???"}, 1}, {brought(plain(), "?b?d"), 0, 2, "z", []string{"?bzd"}, 1}, {brought(plain(), "?"), 0, 0, "z", []string{"z"}, 1},
	} {
		o, h := finds.Clean(x.b, x.find, x.place, x.letter)
		want := brought(x.b, x.want...)
		if !equal(o, want) || h != api.Smooth || mustCases(t, o) != x.cases {
			t.Errorf("%d: %v, %v, %d", i, o, h, mustCases(t, o))
		}
	}
	for i, x := range []struct {
		b           api.FindsBook
		find, place int
		letter      string
		want        api.Hitch
	}{
		{bookF(), 0, 1, "z", api.Adrift}, {allowing(plain(), 0), 1, 0, "b", api.Adrift}, {adriftBook(), 0, 1, "c", api.Adrift}, {adriftBook(), 1, 0, "a", api.Adrift},
		{bookF(), 0, 0, "a", api.Double}, {bookF(), 0, 0, "b", api.Double}, {bookF(), 2, 1, "c", api.Double}, {adriftBook(), 1, 1, "b", api.Double},
		{bookF(), 0, 1, "", api.Shape}, {bookF(), 0, 1, "bc", api.Shape}, {bookF(), 0, 1, "?", api.Shape}, {bookF(), 0, 1, "B", api.Shape}, {bookF(), 0, 1, "1", api.Shape}, {bookF(), 0, 1, "b\n", api.Shape}, {bookF(), 0, 1, "\xff", api.Shape}, {bookF(), 0, 1, "\u00e4", api.Shape}, {bookF(), 0, 0, "", api.Shape}, {bookF(), 0, 0, "?", api.Shape}, {adriftBook(), 2, 0, "A", api.Shape},
		{bookF(), 0, 2, "b", api.Missing}, {bookF(), 0, -1, "b", api.Missing}, {bookF(), 0, math.MaxInt, "", api.Missing}, {bookF(), 0, math.MinInt, "?", api.Missing}, {bookF(), 3, 0, "a", api.Missing}, {bookF(), -1, 0, "a", api.Missing}, {adriftBook(), 0, 2, "b", api.Missing}, {brought(plain()), 0, 0, "a", api.Missing},
		{api.FindsBook{}, 0, 0, "a", api.Number}, {allowing(bookF(), 4), 9, 9, "", api.Bounds},
	} {
		if o, h := finds.Clean(x.b, x.find, x.place, x.letter); !isZero(o) || h != x.want {
			t.Errorf("%d: %v, %v, want %v", i, o, h, x.want)
		}
	}
}

func TestNote(t *testing.T) {
	full := noted(bookF(), same(0, 1), same(0, 1), same(0, 1))
	for i, x := range []struct {
		b     api.FindsBook
		n     api.FindsNote
		cases int
	}{
		{bookF(), same(0, 1), 3}, {bookF(), same(0, 2), 1}, {bookF(), other(0, 2), 2}, {bookF(), same(1, 2), 1}, {plain(), same(0, 1), 3}, {plain(), other(0, 1), 9}, {only(full, []int{0, 1}), other(1, 2), 2},
	} {
		o, h := finds.Note(x.b, x.n)
		if want := noted(x.b, append(slices.Clone(x.b.Notes), x.n)...); !equal(o, want) || h != api.Smooth || mustCases(t, o) != x.cases {
			t.Errorf("%d: %v, %v", i, o, h)
		}
	}
	for i, x := range []struct {
		b    api.FindsBook
		n    api.FindsNote
		want api.Hitch
	}{
		{bookF(), other(0, 1), api.Adrift}, {adriftBook(), same(0, 1), api.Adrift}, {brought(plain(), "zz", "ab"), same(0, 1), api.Adrift}, {noted(bookF(), other(0, 2), same(0, 1)), same(1, 2), api.Adrift},
		{bookF(), same(1, 0), api.Crossed}, {bookF(), same(0, 0), api.Crossed}, {bookF(), other(2, 1), api.Crossed}, {adriftBook(), same(2, 2), api.Crossed},
		{bookF(), same(0, 3), api.Missing}, {bookF(), other(-1, 0), api.Missing}, {bookF(), same(3, 0), api.Missing}, {bookF(), same(math.MinInt, math.MaxInt), api.Missing}, {brought(plain()), same(0, 1), api.Missing}, {adriftBook(), same(0, 3), api.Missing},
		{full, same(0, 1), api.Number}, {full, same(0, 3), api.Number}, {full, same(1, 0), api.Number}, {full, other(0, 1), api.Number},
		{api.FindsBook{}, same(0, 1), api.Number}, {allowing(full, -1), same(0, 3), api.Bounds},
	} {
		if o, h := finds.Note(x.b, x.n); !isZero(o) || h != x.want {
			t.Errorf("%d: %v, %v, want %v", i, o, h, x.want)
		}
	}
}

func TestBring(t *testing.T) {
	five := brought(allowing(plain(), 1), "a?", "?b", "ac", "ab", "zz")
	for i, x := range []struct {
		b     api.FindsBook
		mark  string
		cases int
	}{
		{bookF(), "zz", 1}, {bookF(), "????", 1}, {bookF(), "ab", 5}, {brought(plain()), "a?", 4}, {brought(plain()), "?", 1}, {brought(plain()), "abcd", 1}, {brought(plain(), five.Finds[:4]...), "zz", 3}, {brought(lacking()), "a", 1}, {allowing(brought(lacking()), 1), "a", 2},
	} {
		o, h := finds.Bring(x.b, x.mark)
		if want := noted(brought(x.b, append(slices.Clone(x.b.Finds), x.mark)...), x.b.Notes...); !equal(o, want) || h != api.Smooth || mustCases(t, o) != x.cases {
			t.Errorf("%d: %v, %v, %d", i, o, h, mustCases(t, o))
		}
	}
	for i, x := range []struct {
		b    api.FindsBook
		mark string
		want api.Hitch
	}{
		{brought(lacking()), "b", api.Adrift}, {lacking(), "a", api.Adrift}, {adriftBook(), "ab", api.Adrift}, {brought(lacking(), "a"), "a", api.Adrift}, {brought(plain(), "zz"), "zz", api.Adrift},
		{bookF(), "", api.Shape}, {bookF(), "abcde", api.Shape}, {bookF(), "A", api.Shape}, {bookF(), "a b", api.Shape}, {bookF(), "a\n", api.Shape}, {bookF(), "\xff", api.Shape}, {bookF(), "-", api.Shape}, {adriftBook(), "", api.Shape},
		{five, "ab", api.Number}, {five, "", api.Number}, {api.FindsBook{}, "a", api.Number}, {allowing(five, 4), "", api.Bounds},
	} {
		if o, h := finds.Bring(x.b, x.mark); !isZero(o) || h != x.want {
			t.Errorf("%d: %v, %v, want %v", i, o, h, x.want)
		}
	}
}

const (
	textP = "finds 1\nline 0 ab 2\nline 0 ac 1\nline 1 ab 1\nfind a?\nfind ?b\nfind ac\n"
	textF = textP + "note 0 1 same\n"
	small = "finds 0\nline 0 a 1\n"
)

func TestPrint(t *testing.T) {
	for want, b := range map[string]api.FindsBook{
		textF: bookF(), textP: plain(), textF + "note 0 1 other\n": adriftBook(), textP + "note 0 1 other\nnote 1 2 same\nnote 0 2 other\n": noted(bookF(), other(0, 1), same(1, 2), other(0, 2)),
		small: brought(lacking()), small + "find b\n": lacking(),
		"finds 3\nline 0 aaaa 3\nline 1 aaab 3\nline 2 aaba 3\nline 0 zzzz 3\nline 1 aaaa 3\nfind ????\nfind ????\nfind ????\nfind ????\nfind ????\n": widest(),
	} {
		if s, h := finds.Print(b); s != want || h != api.Smooth {
			t.Errorf("%q, %v, want %q", s, h, want)
		}
		if o, n, h := finds.Parse(want); !equal(o, b) || n != 0 || h != api.Smooth {
			t.Errorf("%q: %v, %d, %v", want, o, n, h)
		}
	}
	for i, b := range []api.FindsBook{{}, listed(bookF()), {Finds: []string{"a"}}} {
		if s, h := finds.Print(b); s != "" || h != api.Number {
			t.Errorf("%d: %q, %v", i, s, h)
		}
	}
}

func TestParseWrongLines(t *testing.T) {
	head, found := "finds 0\n", small+"find a\nfind ?\n"
	for s, line := range map[string]int{
		"": 0, "\n": 1, "\n" + small: 1, "finds": 1, "finds\n": 1, "finds 0 0\n": 1, "finds x\n": 1, "finds 0:1\n": 1, "finds -\n": 1, "finds 00\n": 1, "finds -0\n": 1, "finds +1\n": 1, "finds 0 \n": 1, "finds  0\n": 1, " finds 0\n": 1, "Finds 0\n": 1, "finds 0\r\n": 1, "finds 1234567890\n": 1,
		"line 0 a 1\n": 1, "find a\n": 1, "note 0 1 same\n": 1, "line 0 a 1\nfinds 0\n": 1, head + head: 2, head + "\n": 2,
		head + "line\n": 2, head + "line 0 a\n": 2, head + "line 0 a 1 1\n": 2, head + "line x a 1\n": 2, head + "line 0:1 a 1\n": 2, head + "line 0 a x\n": 2, head + "line 0 a 1:2\n": 2, head + "line 0 a 01\n": 2, head + "line 0 a -\n": 2, head + "line a 0 1\n": 2, head + "line 0  1\n": 2, head + "line  a 1\n": 2, head + "lines 0 a 1\n": 2, head + "Line 0 a 1\n": 2, head + "hull 0 a 1\n": 2,
		small + small: 3, small + "\n": 3, small + "find\n": 3, small + "find a b\n": 3, small + "find \n": 3, small + "find  a\n": 3, small + "finds a\n": 3, small + "Find a\n": 3, small + "find a\nline 0 b 1\n": 4, small + "find a\nfinds 0\n": 4, small + "note 0 1 same\nfind a\n": 4,
		found + "note\n": 5, found + "note 0 1\n": 5, found + "note 0 1 same same\n": 5, found + "note x 1 same\n": 5, found + "note 0 x same\n": 5, found + "note 0:1 same\n": 5, found + "note 0 1:2 same\n": 5, found + "note 0,1 1 same\n": 5, found + "note 00 1 same\n": 5, found + "note 0 1 Same\n": 5, found + "note 0 1 yes\n": 5, found + "note 0 1 others\n": 5, found + "note 0 1 -\n": 5, found + "note 0 1 0\n": 5, found + "note same 0 1\n": 5, found + "note  1 same\n": 5, found + "notes 0 1 same\n": 5, found + "\n": 5, found + head: 5,
		found + "note 0 1 same\nfind a\n": 6, found + "note 0 1 same\nline 0 b 1\n": 6, found + "note 0 1 other\nfinds 0\n": 6, found + "note 0 1 other\nnote 0 1 same\n\n": 7,
		"finds 9\nline 9 A 9\nfind A\nnote 9 9 same\nnote\n": 5, strings.Repeat("\n", api.MaxText): 1,
	} {
		if b, n, h := finds.Parse(s); !isZero(b) || n != line || h != api.Shape {
			t.Errorf("%.80q: %v, %d, %v, want line %d", s, b, n, h, line)
		}
	}
}

func TestParseHitches(t *testing.T) {
	head, found := "finds 0\n", small+"find a\nfind ?\n"
	for s, want := range map[string]api.Hitch{
		head:                                            api.Number,
		"finds 0":                                       api.Number,
		head + "find a\n":                               api.Number,
		head + "find a\nnote 0 1 same\n":                api.Number,
		head + "note 0 1 same\n":                        api.Number,
		"finds 4\nline 0 a 1\n":                         api.Bounds,
		"finds -1\nline 0 a 1\n":                        api.Bounds,
		"finds 999999999\n":                             api.Bounds,
		head + "line 3 a 1\n":                           api.Bounds,
		head + "line -1 a 1\n":                          api.Bounds,
		head + "line 0 a 0\n":                           api.Bounds,
		head + "line 0 a 4\n":                           api.Bounds,
		head + "line 0 A 1\n":                           api.Shape,
		head + "line 0 a? 1\n":                          api.Shape,
		head + "line 0 abcde 1\n":                       api.Shape,
		head + "line 0 1 1\n":                           api.Shape,
		head + "line 0 - 1\n":                           api.Shape,
		small + "line 0 a 2\n":                          api.Double,
		small + "find A\n":                              api.Shape,
		small + "find 7\n":                              api.Shape,
		small + "find -\n":                              api.Shape,
		small + "find ?????\n":                          api.Shape,
		small + "find a\r\n":                            api.Shape,
		small + "note 0 1 same\n":                       api.Missing,
		found + "note 0 2 same\n":                       api.Missing,
		found + "note -1 0 same\n":                      api.Missing,
		found + "note 1 0 same\n":                       api.Crossed,
		found + "note 1 1 other\n":                      api.Crossed,
		found + "find a\nnote 1 0 same\n":               api.Crossed,
		small + strings.Repeat("line 1 b 1\n", 5):       api.Number,
		small + strings.Repeat("find a\n", 6):           api.Number,
		found + strings.Repeat("note 0 1 same\n", 4):    api.Number,
		head + strings.Repeat("line 0 a 1\n", 3000):     api.Number,
		strings.Repeat("f", api.MaxText+1):              api.Number,
		small + strings.Repeat("find a\n", api.MaxText): api.Number,
	} {
		if b, n, h := finds.Parse(s); !isZero(b) || n != 0 || h != want {
			t.Errorf("%.80q: %v, %d, %v", s, b, n, h)
		}
	}
	// A book without a case is read, with its last line feed or without it.
	if b, n, h := finds.Parse(textF + "note 0 1 other"); !equal(b, adriftBook()) || n != 0 || h != api.Smooth {
		t.Errorf("%v, %d, %v", b, n, h)
	}
	// A text as long as the limit is read: its first line is wrong.
	if b, n, h := finds.Parse(strings.Repeat("f", api.MaxText)); !isZero(b) || n != 1 || h != api.Shape {
		t.Errorf("%v, %d, %v", b, n, h)
	}
}
