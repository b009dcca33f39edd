package hull_test

import (
	"math"
	"math/rand"
	"slices"
	"strings"
	"testing"

	"lagan/api"
	"lagan/hull"
	"lagan/model"
)

// Tests of P6.1 to P6.5: what each function returns.

const (
	unsure = api.Unsure
	surely = api.Surely
	never  = api.Never
)

// pieces returns pieces with names.
func pieces(names ...string) []api.HullPiece {
	var all []api.HullPiece
	for _, s := range names {
		all = append(all, api.HullPiece{Name: s, Weight: one(1)})
	}
	return all
}

// loaded returns a book with one more piece.
func loaded(b api.HullBook, p api.HullPiece) api.HullBook {
	b = clone(b)
	b.Pieces = append(b.Pieces, p)
	return b
}

// tower is a book with five pieces, each of which rests on the one before it; they are upright.
func tower() api.HullBook {
	b := api.HullBook{Pieces: pieces("a", "b", "c", "d", "e")}
	for i := range b.Pieces[1:] {
		b.Pieces[i+1].On = []int{i}
	}
	return b
}

func TestCheckBook(t *testing.T) {
	for name, x := range map[string]struct {
		change func(b *api.HullBook)
		want   api.Hitch
	}{
		"G":                        {func(b *api.HullBook) {}, api.Smooth},
		"limit below":              {func(b *api.HullBook) { b.Limit = -1 }, api.Bounds},
		"no limit":                 {func(b *api.HullBook) { b.Limit = 0 }, api.Smooth},
		"greatest limit":           {func(b *api.HullBook) { b.Limit = 9999 }, api.Smooth},
		"limit above":              {func(b *api.HullBook) { b.Limit = 10000 }, api.Bounds},
		"any limit":                {func(b *api.HullBook) { b.Limit = math.MinInt }, api.Bounds},
		"least ballast":            {func(b *api.HullBook) { b.Ballast = reach(-999, -997) }, api.Smooth},
		"greatest ballast":         {func(b *api.HullBook) { b.Ballast = reach(997, 999) }, api.Smooth},
		"ballast below":            {func(b *api.HullBook) { b.Ballast = reach(-1000, -999) }, api.Bounds},
		"ballast above":            {func(b *api.HullBook) { b.Ballast = reach(999, 1000) }, api.Bounds},
		"ballast turned":           {func(b *api.HullBook) { b.Ballast = reach(1, 0) }, api.Bounds},
		"ballast to either side":   {func(b *api.HullBook) { b.Ballast = reach(-1, 1) }, api.Smooth},
		"ballast of four numbers":  {func(b *api.HullBook) { b.Ballast = reach(-1, 2) }, api.Bounds},
		"any ballast":              {func(b *api.HullBook) { b.Ballast = reach(math.MinInt, math.MaxInt) }, api.Bounds},
		"no pieces":                {func(b *api.HullBook) { b.Pieces, b.Out, b.Heels = nil, nil, nil }, api.Number},
		"one piece":                {func(b *api.HullBook) { b.Pieces, b.Out, b.Heels = pieces("a"), nil, nil }, api.Smooth},
		"five pieces":              {func(b *api.HullBook) { b.Pieces = pieces("a", "b", "c", "d", "e") }, api.Smooth},
		"six pieces":               {func(b *api.HullBook) { b.Pieces = pieces("a", "b", "c", "d", "e", "f") }, api.Number},
		"no name":                  {func(b *api.HullBook) { b.Pieces[0].Name = "" }, api.Label},
		"a name that is no label":  {func(b *api.HullBook) { b.Pieces[1].Name = "Chest" }, api.Label},
		"a name with a blank":      {func(b *api.HullBook) { b.Pieces[1].Name = "a chest" }, api.Label},
		"a name that begins wrong": {func(b *api.HullBook) { b.Pieces[1].Name = "2chests" }, api.Label},
		"a longest name":           {func(b *api.HullBook) { b.Pieces[1].Name = "abcdefghijk9" }, api.Smooth},
		"a longer name":            {func(b *api.HullBook) { b.Pieces[1].Name = "abcdefghijklm" }, api.Label},
		"a name twice":             {func(b *api.HullBook) { b.Pieces[1].Name = "gun" }, api.Double},
		"a name twice, apart":      {func(b *api.HullBook) { b.Pieces[2].Name = "gun" }, api.Double},
		"far to port":              {func(b *api.HullBook) { b.Pieces[1].Arm = -9 }, api.Smooth},
		"too far to port":          {func(b *api.HullBook) { b.Pieces[1].Arm = -10 }, api.Bounds},
		"far to starboard":         {func(b *api.HullBook) { b.Pieces[1].Arm = 9 }, api.Smooth},
		"too far to starboard":     {func(b *api.HullBook) { b.Pieces[1].Arm = 10 }, api.Bounds},
		"in the middle":            {func(b *api.HullBook) { b.Pieces[1].Arm = 0 }, api.Smooth},
		"any arm":                  {func(b *api.HullBook) { b.Pieces[1].Arm = math.MaxInt }, api.Bounds},
		"no weight":                {func(b *api.HullBook) { b.Pieces[1].Weight = reach(0, 1) }, api.Bounds},
		"least weight":             {func(b *api.HullBook) { b.Pieces[1].Weight = reach(1, 3) }, api.Smooth},
		"greatest weight":          {func(b *api.HullBook) { b.Pieces[1].Weight = reach(97, 99) }, api.Smooth},
		"weight above":             {func(b *api.HullBook) { b.Pieces[1].Weight = reach(99, 100) }, api.Bounds},
		"weight turned":            {func(b *api.HullBook) { b.Pieces[1].Weight = reach(2, 1) }, api.Bounds},
		"weight of four numbers":   {func(b *api.HullBook) { b.Pieces[1].Weight = reach(1, 4) }, api.Bounds},
		"any weight":               {func(b *api.HullBook) { b.Pieces[1].Weight = reach(math.MaxInt, math.MinInt) }, api.Bounds},
		"on itself":                {func(b *api.HullBook) { b.Pieces[2].On = []int{2} }, api.Missing},
		"on a later piece":         {func(b *api.HullBook) { b.Pieces[1].On = []int{2} }, api.Missing},
		"the first one on another": {func(b *api.HullBook) { b.Pieces[0].On = []int{0} }, api.Missing},
		"on a piece below":         {func(b *api.HullBook) { b.Pieces[2].On = []int{-1} }, api.Missing},
		"on any piece":             {func(b *api.HullBook) { b.Pieces[2].On = []int{math.MinInt} }, api.Missing},
		"on all pieces":            {func(b *api.HullBook) { b.Pieces[2].On = []int{0, 1} }, api.Smooth},
		"on a piece twice":         {func(b *api.HullBook) { b.Pieces[2].On = []int{0, 0} }, api.Crossed},
		"on pieces out of order":   {func(b *api.HullBook) { b.Pieces[2].On = []int{1, 0} }, api.Crossed},
		"none out":                 {func(b *api.HullBook) { b.Out, b.Heels = nil, nil }, api.Smooth},
		"all out":                  {func(b *api.HullBook) { b.Out = []int{2, 1, 0} }, api.Smooth},
		"out of order":             {func(b *api.HullBook) { b.Out = []int{1, 2, 0} }, api.Smooth},
		"out, but not there":       {func(b *api.HullBook) { b.Out = []int{3} }, api.Missing},
		"out, but below":           {func(b *api.HullBook) { b.Out = []int{2, -1} }, api.Missing},
		"anything out":             {func(b *api.HullBook) { b.Out = []int{math.MaxInt} }, api.Missing},
		"out twice":                {func(b *api.HullBook) { b.Out = []int{2, 2} }, api.Double},
		"out twice, apart":         {func(b *api.HullBook) { b.Out = []int{2, 1, 0, 2} }, api.Double},
		"out from under":           {func(b *api.HullBook) { b.Out = []int{0} }, api.Crossed},
		"out from under, later":    {func(b *api.HullBook) { b.Out = []int{1, 0, 2} }, api.Crossed},
		"no heels":                 {func(b *api.HullBook) { b.Heels = nil }, api.Smooth},
		"four heels":               {func(b *api.HullBook) { b.Heels = slices.Repeat(b.Heels, 4) }, api.Smooth},
		"five heels":               {func(b *api.HullBook) { b.Heels = slices.Repeat(b.Heels, 5) }, api.Number},
		"heel before":              {func(b *api.HullBook) { b.Heels[0].After = -1 }, api.Missing},
		"heel with none out":       {func(b *api.HullBook) { b.Heels[0].After = 0 }, api.Smooth},
		"heel behind":              {func(b *api.HullBook) { b.Heels[0].After = 2 }, api.Missing},
		"heel at any time":         {func(b *api.HullBook) { b.Heels[0].After = math.MaxInt }, api.Missing},
		"to port":                  {func(b *api.HullBook) { b.Heels[0].Side = api.HullPort }, api.Smooth},
		"to starboard":             {func(b *api.HullBook) { b.Heels[0].Side = api.HullStarboard }, api.Smooth},
		"to no side":               {func(b *api.HullBook) { b.Heels[0].Side = 3 }, api.Bounds},
		"to a side below":          {func(b *api.HullBook) { b.Heels[0].Side = -1 }, api.Bounds},
		"to any side":              {func(b *api.HullBook) { b.Heels[0].Side = math.MinInt }, api.Bounds},
		"no case":                  {func(b *api.HullBook) { b.Limit, b.Heels[0].Side = 0, api.HullPort }, api.Smooth},

		"limit, then pieces":      {func(b *api.HullBook) { b.Limit, b.Pieces = -1, nil }, api.Bounds},
		"ballast, then pieces":    {func(b *api.HullBook) { b.Ballast, b.Pieces = reach(0, 3), nil }, api.Bounds},
		"many pieces, then what":  {func(b *api.HullBook) { b.Pieces = make([]api.HullPiece, 6) }, api.Number},
		"no pieces, then out":     {func(b *api.HullBook) { b.Pieces = nil }, api.Number},
		"label, then double":      {func(b *api.HullBook) { b.Pieces = pieces("a", "A", "A") }, api.Label},
		"label, then arm":         {func(b *api.HullBook) { b.Pieces[0] = api.HullPiece{Name: "A", Arm: 10} }, api.Label},
		"double, then weight":     {func(b *api.HullBook) { b.Pieces[1] = api.HullPiece{Name: "gun"} }, api.Double},
		"arm, then on":            {func(b *api.HullBook) { b.Pieces[2].Arm, b.Pieces[2].On = 10, []int{3} }, api.Bounds},
		"weight, then on":         {func(b *api.HullBook) { b.Pieces[2].Weight, b.Pieces[2].On = one(0), []int{3} }, api.Bounds},
		"number by number":        {func(b *api.HullBook) { b.Pieces[2].On = []int{1, 0, 3} }, api.Crossed},
		"number by number, there": {func(b *api.HullBook) { b.Pieces[2].On = []int{1, 3, 0} }, api.Missing},
		"there, then above":       {func(b *api.HullBook) { b.Pieces[2].On = []int{1, -1} }, api.Missing},
		"piece by piece":          {func(b *api.HullBook) { b.Pieces[0].On, b.Pieces[1].Name = []int{0}, "" }, api.Missing},
		"pieces, then out":        {func(b *api.HullBook) { b.Pieces[2].On, b.Out = []int{0, 0}, []int{3} }, api.Crossed},
		"out by out":              {func(b *api.HullBook) { b.Out = []int{2, 2, 3} }, api.Double},
		"out by out, there":       {func(b *api.HullBook) { b.Out = []int{2, 3, 2} }, api.Missing},
		"out by out, free":        {func(b *api.HullBook) { b.Out = []int{0, 0, 3} }, api.Crossed},
		"out, then heels":         {func(b *api.HullBook) { b.Out, b.Heels = []int{0}, make([]api.HullHeel, 5) }, api.Crossed},
		"many heels, then what":   {func(b *api.HullBook) { b.Heels = slices.Repeat([]api.HullHeel{upright(9)}, 5) }, api.Number},
		"after, then side":        {func(b *api.HullBook) { b.Heels[0] = heel(2, 3) }, api.Missing},
		"heel by heel":            {func(b *api.HullBook) { b.Heels = []api.HullHeel{heel(1, 3), upright(2)} }, api.Bounds},
	} {
		b := bookG()
		x.change(&b)
		if h := hull.CheckBook(b); h != x.want {
			t.Errorf("%s: %v, want %v", name, h, x.want)
		}
	}
}

func TestMoment(t *testing.T) {
	far := api.HullBook{Limit: 9999, Ballast: one(999), Pieces: pieces("a", "b", "c", "d", "e")}
	for i := range far.Pieces {
		far.Pieces[i].Arm = 9
	}
	for i, x := range []struct {
		b    api.HullBook
		c    api.HullCase
		out  []int
		want int
	}{
		{bookH(), hullCase(0, 21, 30, 10), nil, 7}, {bookH(), hullCase(0, 21, 30, 10), []int{1}, -53}, {bookH(), hullCase(0, 20, 30, 10), nil, 10}, {bookH(), hullCase(0, 20, 30, 10), []int{0}, 70}, {bookH(), hullCase(0, 20, 30, 10), []int{2}, 0}, {bookH(), hullCase(0, 20, 30, 10), []int{1, 2}, -60}, {bookH(), hullCase(0, 20, 30, 10), []int{0, 1, 2}, 0}, {bookH(), hullCase(0, 20, 30, 10), []int{0, 1}, 10},
		// What is out by the book makes no difference, nor whether it is a case of it.
		{bookG(), hullCase(0, 21, 30, 10), nil, 7}, {bookG(), hullCase(0, 21, 30, 10), []int{1}, -53}, {emptied(), hullCase(0, 20, 30, 10), nil, 10}, {adriftBook(), hullCase(0, 21, 30, 10), nil, 7}, {bookH(), hullCase(-7, 21, 30, 10), nil, 0}, {bookH(), hullCase(999, 0, 0, 0), nil, 999}, {bookH(), hullCase(-999, 99, 0, 99), nil, -1197}, {bookH(), hullCase(5, 99, 99, 99), []int{0, 1, 2}, 5},
		{far, hullCase(999, 99, 99, 99, 99, 99), nil, 5454}, {turned(far), hullCase(-999, 99, 99, 99, 99, 99), nil, -5454}, {far, hullCase(-999, 99, 99, 99, 99, 99), []int{0, 1, 2, 3}, -108},
	} {
		if n, h := hull.Moment(x.b, x.c, x.out); n != x.want || h != api.Smooth {
			t.Errorf("%d: %d, %v", i, n, h)
		}
	}
}

func TestMomentAndIsCaseAsReckonedOtherwise(t *testing.T) {
	is := 0
	eachRandom(300, func(r *rand.Rand, b api.HullBook) {
		for _, c := range modelAll(b, 1) {
			if r.Intn(5) > 0 {
				continue
			}
			out := randomPieces(r, b)
			if n, h := hull.Moment(b, c, out); n != modelMoment(b, c, out) || h != api.Smooth {
				t.Fatalf("Moment(%v, %v, %v): %d, %v, want %d", b, c, out, n, h, modelMoment(b, c, out))
			}
			want := modelIs(b, c)
			if x, h := hull.IsCase(b, c); x != want || h != api.Smooth {
				t.Fatalf("IsCase(%v, %v): %v, %v", b, c, x, h)
			}
			if want {
				is++
			}
		}
	})
	if is < 300 {
		t.Errorf("%d cases", is)
	}
}

func TestIsCase(t *testing.T) {
	// With the anchor and the gun out the moment is 60, with the chest and the anchor out it is -60 or -63.
	two := lifted(bookH(), 2, 0)
	chest := lifted(bookH(), 1, 2)
	for i, x := range []struct {
		b    api.HullBook
		c    api.HullCase
		want bool
	}{
		{bookH(), hullCase(0, 20, 30, 10), true}, {bookH(), hullCase(0, 21, 30, 10), true}, {bookH(), hullCase(0, 19, 30, 10), false}, {bookH(), hullCase(0, 22, 30, 10), false}, {bookH(), hullCase(0, 20, 29, 10), false}, {bookH(), hullCase(0, 20, 30, 11), false}, {bookH(), hullCase(1, 20, 30, 10), false}, {bookH(), hullCase(-1, 20, 30, 10), false}, {bookH(), hullCase(0, 30, 20, 10), false},
		{bookG(), hullCase(0, 20, 30, 10), true}, {bookG(), hullCase(0, 21, 30, 10), false}, {heeled(lifted(bookH(), 2), port(1)), hullCase(0, 21, 30, 10), true}, {heeled(lifted(bookH(), 2), port(1)), hullCase(0, 20, 30, 10), false}, {heeled(lifted(bookH(), 2), starboard(0)), hullCase(0, 21, 30, 10), true}, {heeled(bookG(), starboard(0)), hullCase(0, 20, 30, 10), true}, {heeled(bookG(), port(1)), hullCase(0, 20, 30, 10), false},
		// She did not roll with none out, nor later.
		{limited(bookH(), 10), hullCase(0, 20, 30, 10), true}, {limited(bookH(), 9), hullCase(0, 20, 30, 10), false}, {limited(bookH(), 7), hullCase(0, 21, 30, 10), true}, {limited(bookH(), 6), hullCase(0, 21, 30, 10), false},
		{limited(two, 60), hullCase(0, 20, 30, 10), true}, {limited(two, 59), hullCase(0, 20, 30, 10), false}, {limited(emptied(), 60), hullCase(0, 20, 30, 10), true}, {limited(emptied(), 59), hullCase(0, 20, 30, 10), false},
		{limited(chest, 60), hullCase(0, 20, 30, 10), true}, {limited(chest, 59), hullCase(0, 20, 30, 10), false}, {limited(chest, 63), hullCase(0, 21, 30, 10), true}, {chest, hullCase(0, 21, 30, 10), false},
		// With all out there is the ballast alone.
		{heeled(emptied(), upright(3)), hullCase(0, 20, 30, 10), true}, {heeled(ballasted(emptied(), reach(-1, 1)), port(3)), hullCase(-1, 20, 30, 10), true}, {heeled(ballasted(emptied(), reach(-1, 1)), port(3)), hullCase(1, 20, 30, 10), false},
		{adriftBook(), hullCase(0, 20, 30, 10), false}, {adriftBook(), hullCase(0, 21, 30, 10), false},
	} {
		if is, h := hull.IsCase(x.b, x.c); is != x.want || h != api.Smooth {
			t.Errorf("%d: %v, %v", i, is, h)
		}
	}
}

func TestCaseHitches(t *testing.T) {
	for i, x := range []struct {
		b    api.HullBook
		c    api.HullCase
		out  []int
		want api.Hitch
	}{
		{bookH(), hullCase(-999, 0, 99, 0), nil, api.Smooth}, {bookH(), hullCase(999, 99, 0, 99), []int{0, 2}, api.Smooth},
		{bookH(), hullCase(-1000), []int{9}, api.Bounds}, {bookH(), hullCase(1000, 20, 30, 10), nil, api.Bounds}, {bookH(), hullCase(math.MinInt, 20, 30, 10), nil, api.Bounds},
		{bookH(), hullCase(0), []int{9}, api.Number}, {bookH(), hullCase(0, 100, -1), []int{9}, api.Number}, {bookH(), hullCase(0, 20, 30, 10, 0), nil, api.Number}, {bookG(), hullCase(0, 20, 30), nil, api.Number},
		{bookH(), hullCase(0, 20, 30, 100), []int{9}, api.Bounds}, {bookH(), hullCase(0, -1, 30, 10), []int{1, 1}, api.Bounds}, {bookH(), hullCase(0, 20, math.MaxInt, math.MinInt), nil, api.Bounds},
		{api.HullBook{}, hullCase(1000), []int{9}, api.Number}, {limited(bookH(), -1), hullCase(0), []int{9}, api.Bounds},
	} {
		if n, h := hull.Moment(x.b, x.c, x.out); h != x.want || h != api.Smooth && n != 0 {
			t.Errorf("%d: Moment: %d, %v", i, n, h)
		}
		if is, h := hull.IsCase(x.b, x.c); is || h != x.want {
			t.Errorf("%d: IsCase: %v, %v", i, is, h)
		}
	}
}

func TestPieceHitches(t *testing.T) {
	for i, x := range []struct {
		out  []int
		want api.Hitch
	}{
		{[]int{3}, api.Missing}, {[]int{-1}, api.Missing}, {[]int{math.MinInt}, api.Missing}, {[]int{math.MaxInt}, api.Missing}, {[]int{0, 3, 0}, api.Missing}, {[]int{1, 1}, api.Crossed}, {[]int{2, 1}, api.Crossed}, {[]int{1, 0, 3}, api.Crossed}, {[]int{0, 1, 2, 3}, api.Missing}, {[]int{0, 1, 2, 2}, api.Crossed}, {make([]int, 100000), api.Crossed},
	} {
		for _, b := range []api.HullBook{bookH(), adriftBook()} {
			if n, h := hull.Moment(b, hullCase(0, 20, 30, 10), x.out); n != 0 || h != x.want {
				t.Errorf("%d: Moment: %d, %v", i, n, h)
			}
			model.CheckZero(t, x.want, withPieces(b, x.out)...)
		}
	}
}

func TestFree(t *testing.T) {
	on := bookH()
	on.Pieces[2].On = []int{0, 1}
	for i, x := range []struct {
		b    api.HullBook
		want []int
	}{
		{bookH(), []int{1, 2}}, {bookG(), []int{0, 1}}, {lifted(bookH(), 1), []int{2}}, {lifted(bookH(), 2, 0), []int{1}}, {emptied(), nil}, {adriftBook(), []int{1, 2}}, {on, []int{2}}, {lifted(on, 2), []int{0, 1}}, {tower(), []int{4}}, {lifted(tower(), 4, 3), []int{2}}, {api.HullBook{Pieces: pieces("a", "b", "c", "d", "e")}, []int{0, 1, 2, 3, 4}},
	} {
		if l, h := hull.Free(x.b); !slices.Equal(l, x.want) || h != api.Smooth {
			t.Errorf("%d: %v, %v", i, l, h)
		}
	}
	eachRandom(300, func(_ *rand.Rand, b api.HullBook) {
		if l, h := hull.Free(b); !slices.Equal(l, modelFree(b)) || h != api.Smooth {
			t.Errorf("Free(%v): %v, %v, want %v", b, l, h, modelFree(b))
		}
	})
}

func TestCasesOfH(t *testing.T) {
	wide := ballasted(weighed(bookH(), 1, reach(29, 31)), reach(-1, 1))
	for i, x := range []struct {
		b                    api.HullBook
		many                 int
		gun, chest, ballasts []int
		h                    api.Hitch
	}{
		{bookH(), 2, []int{20, 21}, []int{30}, []int{0}, api.Smooth}, {bookG(), 1, []int{20}, []int{30}, []int{0}, api.Smooth},
		{limited(bookH(), 9), 1, []int{21}, []int{30}, []int{0}, api.Smooth}, {limited(lifted(bookH(), 1), 50), 1, []int{20}, []int{30}, []int{0}, api.Smooth}, {limited(lifted(bookH(), 1), 53), 2, []int{20, 21}, []int{30}, []int{0}, api.Smooth},
		{wide, 18, []int{20, 21}, []int{29, 30, 31}, []int{-1, 0, 1}, api.Smooth}, {heeled(lifted(wide, 2), upright(1)), 2, []int{20, 21}, []int{30, 31}, []int{0, 1}, api.Smooth}, {limited(wide, 4), 1, []int{21}, []int{29}, []int{-1}, api.Smooth},
		{heeled(lifted(wide, 2, 0, 1), starboard(3)), 4, []int{20, 21}, []int{29, 30}, []int{1}, api.Smooth},
		{adriftBook(), 0, nil, nil, nil, api.Adrift}, {limited(bookH(), 6), 0, nil, nil, nil, api.Adrift}, {limited(emptied(), 59), 0, nil, nil, nil, api.Adrift},
	} {
		if n := mustCases(t, x.b); n != x.many {
			t.Errorf("%d: Cases: %d", i, n)
		}
		for piece, want := range [][]int{x.gun, x.chest} {
			if l, h := hull.Weights(x.b, piece); !slices.Equal(l, want) || h != x.h {
				t.Errorf("%d: Weights %d: %v, %v", i, piece, l, h)
			}
		}
		if l, h := hull.Ballasts(x.b); !slices.Equal(l, x.ballasts) || h != x.h {
			t.Errorf("%d: Ballasts: %v, %v", i, l, h)
		}
	}
}

func TestCasesAtTheLimits(t *testing.T) {
	b := api.HullBook{Limit: 9999, Ballast: reach(997, 999), Pieces: pieces("a", "b", "c", "d", "e")}
	for i := range b.Pieces {
		b.Pieces[i].Arm, b.Pieces[i].Weight = 9, reach(97, 99)
	}
	for _, o := range []api.HullBook{b, turned(b)} {
		if n := mustCases(t, o); n != 729 {
			t.Errorf("Cases(%v): %d", o, n)
		}
		if n, h := hull.Orders(o); n != 120 || h != api.Smooth {
			t.Errorf("Orders(%v): %d, %v", o, n, h)
		}
		if l, n, h := hull.Steadiest(o); !slices.Equal(l, []int{0, 1, 2, 3, 4}) || n != 999+4*9*99 || h != api.Smooth {
			t.Errorf("Steadiest(%v): %v, %d, %v", o, l, n, h)
		}
	}
	if x, h := hull.Moments(b, nil); x != reach(997+5*9*97, 999+5*9*99) || h != api.Smooth {
		t.Errorf("Moments: %v, %v", x, h)
	}
	// Of 5454 one pound more or less counts.
	if n := mustCases(t, limited(b, 5453)); n != 728 {
		t.Errorf("Cases: %d", n)
	}
	heavy := heeled(limited(b, 5361), starboard(0), starboard(0), starboard(0), starboard(0))
	if n := mustCases(t, heavy); n != 0 {
		t.Errorf("Cases: %d", n)
	}
	if n := mustCases(t, limited(heavy, 5362)); n != 1 {
		t.Errorf("Cases: %d", n)
	}
}

func TestMomentsAndRolls(t *testing.T) {
	// Either she rolls to port, or to starboard, or not at all.
	wild := api.HullBook{Limit: 4, Pieces: []api.HullPiece{{Name: "a", Arm: 5, Weight: reach(1, 3)}, {Name: "b", Arm: -5, Weight: one(2)}}}
	bound := heeled(limited(wild, 5), port(0))
	for i, x := range []struct {
		b     api.HullBook
		out   []int
		want  api.Reach
		rolls api.Known
	}{
		{bookH(), nil, reach(7, 10), never}, {bookH(), []int{2}, reach(-3, 0), never}, {bookH(), []int{0}, one(70), surely}, {bookH(), []int{1, 2}, reach(-63, -60), unsure}, {bookH(), []int{1}, reach(-53, -50), never}, {bookH(), []int{0, 1, 2}, one(0), never}, {bookH(), []int{0, 2}, one(60), never},
		{limited(bookH(), 63), []int{1, 2}, reach(-63, -60), never}, {limited(bookH(), 60), []int{1, 2}, reach(-63, -60), unsure}, {limited(bookH(), 59), []int{1, 2}, reach(-63, -60), surely}, {limited(bookH(), 69), []int{0}, one(70), surely}, {limited(bookH(), 70), []int{0}, one(70), never},
		// What is out by the book makes no difference but by its cases.
		{bookG(), nil, one(10), never}, {bookG(), []int{1, 2}, one(-60), never}, {lifted(bookH(), 2), []int{0}, one(70), surely}, {emptied(), []int{1}, reach(-53, -50), never},
		{ballasted(bookH(), reach(-1, 1)), []int{0, 1, 2}, reach(-1, 1), never}, {limited(ballasted(emptied(), reach(0, 1)), 61), []int{2}, reach(-3, 1), never},
		{wild, nil, one(0), never}, {wild, []int{1}, one(10), surely}, {limited(wild, 5), nil, reach(-5, 5), never}, {bound, nil, one(-5), never}, {bound, []int{1}, one(5), never}, {bound, []int{0}, one(-10), surely},
	} {
		if r, h := hull.Moments(x.b, x.out); r != x.want || h != api.Smooth {
			t.Errorf("%d: Moments: %v, %v", i, r, h)
		}
		if u, h := hull.Rolls(x.b, x.out); u != x.rolls || h != api.Smooth {
			t.Errorf("%d: Rolls: %v, %v", i, u, h)
		}
	}
	// She surely rolls, to one side or to the other one, though she is upright between both.
	apart := api.HullBook{Limit: 2, Ballast: one(12), Pieces: []api.HullPiece{{Name: "a", Arm: 8, Weight: reach(1, 2)}, {Name: "b", Arm: -8, Weight: reach(1, 2)}, {Name: "c", Arm: -6, Weight: one(2)}}}
	for i, x := range []struct {
		out  []int
		want api.Reach
		u    api.Known
	}{{nil, one(0), never}, {[]int{0}, reach(-16, -8), surely}, {[]int{0, 2}, reach(-4, 4), surely}, {[]int{0, 1}, one(0), never}, {[]int{1, 2}, reach(20, 28), surely}} {
		r, h := hull.Moments(apart, x.out)
		u, g := hull.Rolls(apart, x.out)
		if r != x.want || u != x.u || h != api.Smooth || g != api.Smooth {
			t.Errorf("%d: %v, %v, %v, %v", i, r, u, h, g)
		}
	}
}

func TestCasesAsReckonedOtherwise(t *testing.T) {
	adrift := 0
	eachRandom(400, func(r *rand.Rand, b api.HullBook) {
		cases := modelCases(b)
		if n := mustCases(t, b); n != len(cases) {
			t.Fatalf("Cases(%v): %d, want %d", b, n, len(cases))
		}
		if len(cases) == 0 {
			adrift++
			checkAdrift(t, r, b)
			return
		}
		checkNumbers(t, b, cases)
		checkMoments(t, r, b, cases)
		checkOrders(t, r, b, cases)
		checkAsk(t, b, cases)
	})
	if adrift < 20 || adrift > 200 {
		t.Errorf("%d of 400 books have no case", adrift)
	}
}

// checkAdrift checks what is told of a book that has no case.
func checkAdrift(t *testing.T, r *rand.Rand, b api.HullBook) {
	t.Helper()
	model.CheckZero(t, api.Adrift, questions(b)...)
	model.CheckZero(t, api.Adrift, withPieces(b, randomPieces(r, b))...)
	model.CheckZero(t, api.Adrift, func() (bool, api.Hitch) {
		l, h := hull.Weights(b, 0)
		return l == nil, h
	}, func() (bool, api.Hitch) {
		u, h := hull.Safe(b, randomOrder(r, b))
		return u == api.Unsure, h
	}, func() (bool, api.Hitch) {
		o, h := hull.Weigh(b, 0, b.Pieces[0].Weight)
		return isZero(o), h
	})
	for _, piece := range modelFree(b) {
		if o, h := hull.Lift(b, piece); !isZero(o) || h != api.Adrift {
			t.Errorf("Lift(%v, %d): %v, %v", b, piece, o, h)
		}
	}
}

// checkNumbers checks what is told of weights and of the ballast.
func checkNumbers(t *testing.T, b api.HullBook, cases []api.HullCase) {
	t.Helper()
	for piece := range b.Pieces {
		want := model.NumbersOf(cases, func(c api.HullCase) int { return c.Weights[piece] })
		if l, h := hull.Weights(b, piece); !slices.Equal(l, want) || h != api.Smooth {
			t.Errorf("Weights(%v, %d): %v, %v, want %v", b, piece, l, h, want)
		}
	}
	want := model.NumbersOf(cases, func(c api.HullCase) int { return c.Ballast })
	if l, h := hull.Ballasts(b); !slices.Equal(l, want) || h != api.Smooth {
		t.Errorf("Ballasts(%v): %v, %v, want %v", b, l, h, want)
	}
}

// checkMoments checks what is told of moments with whatever pieces out.
func checkMoments(t *testing.T, r *rand.Rand, b api.HullBook, cases []api.HullCase) {
	t.Helper()
	for range 8 {
		out := randomPieces(r, b)
		all := model.NumbersOf(cases, func(c api.HullCase) int { return modelMoment(b, c, out) })
		want := reach(all[0], all[len(all)-1])
		if x, h := hull.Moments(b, out); x != want || h != api.Smooth {
			t.Errorf("Moments(%v, %v): %v, %v, want %v", b, out, x, h, want)
		}
		rolls := model.Known(cases, func(c api.HullCase) bool { return modelRolls(b, c, out) })
		if u, h := hull.Rolls(b, out); u != rolls || h != api.Smooth {
			t.Errorf("Rolls(%v, %v): %v, %v, want %v", b, out, u, h, rolls)
		}
	}
}

// checkOrders checks which orders are safe, and which are the best ones.
func checkOrders(t *testing.T, r *rand.Rand, b api.HullBook, cases []api.HullCase) {
	t.Helper()
	var next []int
	for _, piece := range modelFree(b) {
		if model.Known(cases, func(c api.HullCase) bool { return modelSafe(b, c, []int{piece}) }) == surely {
			next = append(next, piece)
		}
	}
	if l, h := hull.Next(b); !slices.Equal(l, next) || h != api.Smooth {
		t.Errorf("Next(%v): %v, %v, want %v", b, l, h, next)
	}
	for range 5 {
		order := randomOrder(r, b)
		want := model.Known(cases, func(c api.HullCase) bool { return modelSafe(b, c, order) })
		if u, h := hull.Safe(b, order); u != want || h != api.Smooth {
			t.Errorf("Safe(%v, %v): %v, %v, want %v", b, order, u, h, want)
		}
	}
	safe := safeOrders(b, cases)
	if n, h := hull.Orders(b); n != len(safe) || h != api.Smooth {
		t.Errorf("Orders(%v): %d, %v, want %d", b, n, h, len(safe))
	}
	var first []int
	if len(safe) > 0 {
		first = safe[0]
	}
	if l, found, h := hull.First(b); !slices.Equal(l, first) || found != (len(safe) > 0) || h != api.Smooth {
		t.Errorf("First(%v): %v, %v, %v, want %v", b, l, found, h, first)
	}
	all := modelOrders(b)
	steadiest := slices.MinFunc(all, func(x, y []int) int { return modelStrain(b, cases, x) - modelStrain(b, cases, y) })
	strain := modelStrain(b, cases, steadiest)
	if l, n, h := hull.Steadiest(b); !slices.Equal(l, steadiest) || n != strain || h != api.Smooth {
		t.Errorf("Steadiest(%v): %v, %d, %v, want %v, %d", b, l, n, h, steadiest, strain)
	}
}

// checkAsk checks what is to be weighed.
func checkAsk(t *testing.T, b api.HullBook, cases []api.HullCase) {
	t.Helper()
	piece, fewest := -1, len(cases)
	for i := range b.Pieces {
		most := 0
		for weight := range 100 {
			many := 0
			for _, c := range cases {
				if c.Weights[i] == weight {
					many++
				}
			}
			most = max(most, many)
		}
		if most < fewest {
			piece, fewest = i, most
		}
	}
	if i, left, h := hull.Ask(b); i != piece || left != fewest || h != api.Smooth {
		t.Errorf("Ask(%v): %d, %d, %v, want %d, %d", b, i, left, h, piece, fewest)
	}
}

func TestNext(t *testing.T) {
	for i, x := range []struct {
		b    api.HullBook
		want []int
	}{
		{bookH(), []int{1, 2}}, {bookG(), []int{0, 1}}, {limited(bookH(), 50), []int{2}}, {limited(bookH(), 53), []int{1, 2}}, {limited(bookH(), 52), []int{2}}, {lifted(bookH(), 2), []int{0}}, {limited(lifted(bookH(), 2), 59), nil}, {limited(lifted(bookH(), 1), 62), nil}, {limited(lifted(bookH(), 1), 63), []int{2}}, {emptied(), nil},
	} {
		if l, h := hull.Next(x.b); !slices.Equal(l, x.want) || h != api.Smooth {
			t.Errorf("%d: %v, %v", i, l, h)
		}
	}
}

func TestSafe(t *testing.T) {
	for i, x := range []struct {
		b     api.HullBook
		order []int
		want  api.Known
		h     api.Hitch
	}{
		{bookH(), []int{2, 0, 1}, surely, api.Smooth}, {bookH(), []int{2, 1, 0}, unsure, api.Smooth}, {bookH(), []int{1, 2, 0}, unsure, api.Smooth}, {limited(bookH(), 63), []int{1, 2, 0}, surely, api.Smooth}, {limited(bookH(), 50), []int{2, 0, 1}, never, api.Smooth}, {limited(bookH(), 50), []int{1, 2, 0}, never, api.Smooth}, {limited(bookH(), 60), []int{2, 0, 1}, surely, api.Smooth}, {limited(bookH(), 59), []int{2, 0, 1}, never, api.Smooth},
		{bookG(), []int{0, 1}, surely, api.Smooth}, {bookG(), []int{1, 0}, surely, api.Smooth}, {lifted(bookH(), 2), []int{1, 0}, unsure, api.Smooth}, {emptied(), nil, surely, api.Smooth}, {tower(), []int{4, 3, 2, 1, 0}, surely, api.Smooth},
		{adriftBook(), []int{2, 0, 1}, unsure, api.Adrift}, {limited(emptied(), 59), nil, unsure, api.Adrift},

		{bookH(), []int{3}, unsure, api.Missing}, {bookH(), []int{-1}, unsure, api.Missing}, {bookH(), []int{2, math.MaxInt, 2}, unsure, api.Missing}, {bookH(), []int{2, 2, 3}, unsure, api.Double}, {bookH(), []int{2, 1, 0, 1}, unsure, api.Double}, {bookH(), []int{0, 0}, unsure, api.Crossed}, {bookH(), []int{0, 1, 2}, unsure, api.Crossed}, {bookH(), []int{1, 0, 3}, unsure, api.Crossed}, {bookH(), []int{2, 0}, unsure, api.Number}, {bookH(), nil, unsure, api.Number}, {bookH(), []int{2, 0, 1, 3}, unsure, api.Missing},
		{bookG(), []int{2, 0, 1}, unsure, api.Double}, {bookG(), []int{0}, unsure, api.Number}, {bookG(), nil, unsure, api.Number}, {bookG(), []int{0, 2}, unsure, api.Double}, {emptied(), []int{0}, unsure, api.Double}, {emptied(), []int{3}, unsure, api.Missing}, {tower(), []int{4, 2}, unsure, api.Crossed}, {tower(), []int{3}, unsure, api.Crossed},
		{adriftBook(), []int{3}, unsure, api.Missing}, {adriftBook(), []int{2, 2}, unsure, api.Double}, {adriftBook(), []int{0}, unsure, api.Crossed}, {adriftBook(), []int{2, 0}, unsure, api.Number}, {limited(bookH(), -1), []int{3}, unsure, api.Bounds}, {bookH(), make([]int, 100000), unsure, api.Crossed}, {bookG(), make([]int, 100000), unsure, api.Double},
	} {
		if u, h := hull.Safe(x.b, x.order); u != x.want || h != x.h {
			t.Errorf("%d: %v, %v", i, u, h)
		}
	}
}

func TestBestOrders(t *testing.T) {
	loose := api.HullBook{Limit: 9, Pieces: pieces("a", "b", "c", "d", "e")}
	single := api.HullBook{Limit: 5, Ballast: reach(-1, 1), Pieces: []api.HullPiece{{Name: "a", Arm: 1, Weight: one(5)}}}
	for i, x := range []struct {
		b         api.HullBook
		many      int
		first     []int
		found     bool
		steadiest []int
		most      int
	}{
		{bookH(), 1, []int{2, 0, 1}, true, []int{2, 0, 1}, 60}, {bookG(), 2, []int{0, 1}, true, []int{0, 1}, 60}, {limited(bookH(), 50), 0, nil, false, []int{2, 0, 1}, 60}, {limited(bookH(), 63), 3, []int{1, 2, 0}, true, []int{2, 0, 1}, 60}, {limited(bookH(), 60), 1, []int{2, 0, 1}, true, []int{2, 0, 1}, 60}, {limited(bookH(), 59), 0, nil, false, []int{2, 0, 1}, 60},
		// How far the moment went before does not count, nor which orders are safe.
		{lifted(bookH(), 2), 1, []int{0, 1}, true, []int{0, 1}, 60}, {lifted(bookH(), 1), 0, nil, false, []int{2, 0}, 63}, {limited(lifted(bookH(), 1), 63), 1, []int{2, 0}, true, []int{2, 0}, 63}, {lifted(bookH(), 2, 0), 1, []int{1}, true, []int{1}, 0}, {emptied(), 1, nil, true, nil, 0},
		{loose, 120, []int{0, 1, 2, 3, 4}, true, []int{0, 1, 2, 3, 4}, 0}, {lifted(loose, 3, 0), 6, []int{1, 2, 4}, true, []int{1, 2, 4}, 0}, {tower(), 1, []int{4, 3, 2, 1, 0}, true, []int{4, 3, 2, 1, 0}, 0}, {single, 1, []int{0}, true, []int{0}, 1}, {turned(bookH()), 1, []int{2, 0, 1}, true, []int{2, 0, 1}, 60},
	} {
		if n, h := hull.Orders(x.b); n != x.many || h != api.Smooth {
			t.Errorf("%d: Orders: %d, %v", i, n, h)
		}
		if l, found, h := hull.First(x.b); !slices.Equal(l, x.first) || found != x.found || h != api.Smooth {
			t.Errorf("%d: First: %v, %v, %v", i, l, found, h)
		}
		if l, n, h := hull.Steadiest(x.b); !slices.Equal(l, x.steadiest) || n != x.most || h != api.Smooth {
			t.Errorf("%d: Steadiest: %v, %d, %v", i, l, n, h)
		}
	}
}

func TestWhatIsNotThere(t *testing.T) {
	for _, b := range []api.HullBook{bookH(), adriftBook()} {
		for _, i := range []int{-1, 3, 5, math.MinInt, math.MaxInt} {
			model.CheckZero(t, api.Missing, withPiece(b, i)...)
		}
	}
}

func TestClash(t *testing.T) {
	g := lifted(bookH(), 2)
	for i, x := range []struct {
		b    api.HullBook
		want []int
		h    api.Hitch
	}{
		{bookH(), nil, api.Smooth}, {bookG(), nil, api.Smooth}, {adriftBook(), []int{0}, api.Smooth}, {heeled(bookH(), starboard(0), port(0), upright(0)), []int{1}, api.Smooth},
		{heeled(g, port(1), upright(1)), []int{0, 1}, api.Smooth}, {heeled(g, port(1), starboard(0), upright(1), port(1)), []int{0, 2}, api.Smooth}, {heeled(g, starboard(0), upright(1), upright(1), port(1)), []int{1, 3}, api.Smooth}, {heeled(g, upright(1), port(1), starboard(1)), []int{2}, api.Smooth},
		{limited(bookH(), 6), nil, api.Lacking}, {limited(adriftBook(), 6), nil, api.Lacking}, {limited(emptied(), 59), nil, api.Lacking}, {limited(heeled(emptied(), starboard(0)), 59), nil, api.Lacking},
	} {
		if l, h := hull.Clash(x.b); !slices.Equal(l, x.want) || h != x.h {
			t.Errorf("%d: %v, %v", i, l, h)
		}
	}
}

func TestClashAsReckonedOtherwise(t *testing.T) {
	clashed := map[int]int{}
	lacking := 0
	eachRandom(600, func(r *rand.Rand, b api.HullBook) {
		if r.Intn(10) > 0 {
			b = heeledAtRandom(r, b)
		}
		few, found := model.FewestOf(len(b.Heels), func(l []int) bool { return len(modelCases(only(b, l))) == 0 })
		want := api.Smooth
		if found && len(few) == 0 {
			want = api.Lacking
			lacking++
		}
		clashed[len(few)]++
		if l, h := hull.Clash(b); !slices.Equal(l, few) || h != want {
			t.Errorf("Clash(%v): %v, %v, want %v, %v", b, l, h, few, want)
		}
	})
	if clashed[1] < 10 || clashed[2] < 10 || lacking < 5 {
		t.Errorf("so many books by how many heels clash: %v, and %d have no case without any", clashed, lacking)
	}
}

func TestAsk(t *testing.T) {
	both := weighed(bookH(), 1, reach(29, 31))
	same := weighed(bookH(), 1, reach(30, 31))
	for i, x := range []struct {
		b           api.HullBook
		piece, left int
	}{
		{bookH(), 0, 1}, {bookG(), -1, 1}, {both, 1, 2}, {same, 0, 2}, {weighed(both, 0, one(20)), 1, 1}, {ballasted(bookH(), reach(-1, 1)), 0, 3}, {ballasted(weighed(bookH(), 0, one(20)), reach(-1, 1)), -1, 3},
		// A piece that is out is weighed, too.
		{lifted(bookH(), 2, 0), 0, 1}, {emptied(), 0, 1}, {heeled(lifted(same, 2), starboard(1)), -1, 1}, {heeled(lifted(both, 2), port(1)), 1, 2},
	} {
		if piece, left, h := hull.Ask(x.b); piece != x.piece || left != x.left || h != api.Smooth {
			t.Errorf("%d: %d, %d, %v", i, piece, left, h)
		}
	}
}

func TestHeel(t *testing.T) {
	g := lifted(bookH(), 2)
	full := heeled(bookG(), upright(1), upright(1), upright(1))
	for i, x := range []struct {
		b    api.HullBook
		x    api.HullHeel
		want api.Hitch
	}{
		{g, upright(1), api.Smooth}, {g, port(1), api.Smooth}, {g, starboard(0), api.Smooth}, {bookH(), starboard(0), api.Smooth}, {bookG(), starboard(0), api.Smooth}, {bookG(), upright(1), api.Smooth}, {emptied(), starboard(2), api.Smooth}, {emptied(), upright(3), api.Smooth},
		{g, starboard(1), api.Adrift}, {g, port(0), api.Adrift}, {bookG(), port(1), api.Adrift}, {bookH(), upright(0), api.Adrift}, {emptied(), port(3), api.Adrift}, {adriftBook(), starboard(0), api.Adrift}, {limited(bookH(), 6), starboard(0), api.Adrift},
		{g, heel(2, 3), api.Missing}, {g, upright(-1), api.Missing}, {bookH(), upright(1), api.Missing}, {g, upright(math.MinInt), api.Missing}, {emptied(), upright(4), api.Missing}, {adriftBook(), heel(9, 9), api.Missing}, {g, heel(1, 3), api.Bounds}, {g, heel(0, -1), api.Bounds}, {adriftBook(), heel(0, math.MaxInt), api.Bounds},
		{full, upright(1), api.Number}, {full, heel(9, 9), api.Number}, {full, port(1), api.Number}, {limited(full, -1), upright(1), api.Bounds},
	} {
		o, h := hull.Heel(x.b, x.x)
		if h != x.want || h != api.Smooth && !isZero(o) {
			t.Errorf("%d: %v, %v", i, o, h)
		}
		if h == api.Smooth && !equal(o, heeled(x.b, x.x)) {
			t.Errorf("%d: %v", i, o)
		}
	}
	without, _ := hull.Lift(bookH(), 2)
	if o, h := hull.Heel(without, starboard(1)); !isZero(o) || h != api.Adrift {
		t.Errorf("%v, %v", o, h)
	}
}

func TestWeigh(t *testing.T) {
	wide := weighed(bookH(), 1, reach(29, 31))
	for i, x := range []struct {
		b         api.HullBook
		piece     int
		x, weight api.Reach
	}{
		{bookH(), 0, one(21), one(21)}, {bookH(), 0, one(20), one(20)}, {bookH(), 0, reach(1, 99), reach(20, 21)}, {bookH(), 0, reach(21, 99), one(21)}, {bookH(), 0, reach(1, 20), one(20)}, {bookH(), 1, reach(30, 31), one(30)}, {bookH(), 2, one(10), one(10)}, {wide, 1, reach(30, 40), reach(30, 31)}, {wide, 1, reach(28, 29), one(29)}, {bookG(), 0, reach(20, 21), reach(20, 21)}, {bookG(), 0, one(20), one(20)}, {emptied(), 0, one(21), one(21)},
	} {
		if o, h := hull.Weigh(x.b, x.piece, x.x); !equal(o, weighed(x.b, x.piece, x.weight)) || h != api.Smooth {
			t.Errorf("%d: %v, %v", i, o, h)
		}
	}
	for i, x := range []struct {
		b     api.HullBook
		piece int
		x     api.Reach
		want  api.Hitch
	}{
		{bookH(), 0, one(22), api.Adrift}, {bookH(), 0, reach(1, 19), api.Adrift}, {bookG(), 0, one(21), api.Adrift}, {limited(bookH(), 9), 0, one(20), api.Adrift}, {adriftBook(), 0, reach(1, 99), api.Adrift}, {adriftBook(), 0, one(22), api.Adrift},
		{bookH(), 0, reach(0, 21), api.Bounds}, {bookH(), 0, reach(21, 20), api.Bounds}, {bookH(), 0, reach(20, 100), api.Bounds}, {bookH(), 0, reach(math.MinInt, math.MaxInt), api.Bounds}, {adriftBook(), 0, one(0), api.Bounds}, {bookH(), 0, reach(90, 80), api.Bounds},
		{bookH(), 3, one(0), api.Missing}, {bookH(), -1, one(21), api.Missing}, {adriftBook(), math.MaxInt, one(0), api.Missing}, {limited(bookH(), -1), 3, one(0), api.Bounds},
	} {
		if o, h := hull.Weigh(x.b, x.piece, x.x); !isZero(o) || h != x.want {
			t.Errorf("%d: %v, %v", i, o, h)
		}
	}
	o, _ := hull.Weigh(bookH(), 0, one(21))
	if n, h := hull.Orders(o); n != 1 || h != api.Smooth {
		t.Errorf("%d, %v", n, h)
	}
}

func TestLift(t *testing.T) {
	for i, x := range []struct {
		b     api.HullBook
		piece int
		cases int
	}{
		{bookH(), 2, 2}, {bookH(), 1, 2}, {bookG(), 0, 1}, {bookG(), 1, 1}, {lifted(bookH(), 2), 1, 1}, {lifted(bookH(), 2, 0), 1, 2}, {limited(bookH(), 50), 1, 1}, {limited(bookH(), 52), 1, 1}, {limited(bookH(), 53), 1, 2}, {limited(lifted(bookH(), 2), 60), 0, 2},
	} {
		o, h := hull.Lift(x.b, x.piece)
		if !equal(o, lifted(x.b, x.piece)) || h != api.Smooth {
			t.Errorf("%d: %v, %v", i, o, h)
		}
		if n := mustCases(t, o); n != x.cases {
			t.Errorf("%d: %d cases", i, n)
		}
	}
	for i, x := range []struct {
		b     api.HullBook
		piece int
		want  api.Hitch
	}{
		{limited(bookH(), 49), 1, api.Adrift}, {limited(lifted(bookH(), 2), 59), 0, api.Adrift}, {adriftBook(), 2, api.Adrift}, {adriftBook(), 1, api.Adrift}, {limited(lifted(bookH(), 2, 0), 59), 1, api.Adrift},
		{bookH(), 0, api.Crossed}, {lifted(bookH(), 1), 0, api.Crossed}, {adriftBook(), 0, api.Crossed}, {tower(), 3, api.Crossed}, {lifted(tower(), 4), 2, api.Crossed},
		{bookG(), 2, api.Double}, {emptied(), 0, api.Double}, {limited(emptied(), 59), 1, api.Double},
		{bookH(), 3, api.Missing}, {bookH(), -1, api.Missing}, {bookH(), math.MinInt, api.Missing}, {emptied(), 3, api.Missing}, {adriftBook(), 5, api.Missing}, {limited(bookH(), -1), 3, api.Bounds}, {api.HullBook{}, 0, api.Number},
	} {
		if o, h := hull.Lift(x.b, x.piece); !isZero(o) || h != x.want {
			t.Errorf("%d: %v, %v", i, o, h)
		}
	}
}

const (
	cargoH = "piece gun -3 20:21 -\npiece chest 2 30 -\npiece anchor 1 10 0\n"
	textH  = "hull 62 0 -\n" + cargoH
	textG  = "hull 62 0 2\n" + cargoH + "heel 1 upright\n"
	small  = "hull 5 -1:1 -\npiece a 1 5 -\n"
)

func TestPrint(t *testing.T) {
	big := api.HullBook{Limit: 9999, Ballast: reach(-999, -997), Out: []int{2, 1}, Pieces: []api.HullPiece{
		{Name: "abcdefghijk9", Arm: -9, Weight: reach(97, 99)}, {Name: "b", Arm: 9, Weight: one(1), On: []int{0}}, {Name: "c", Weight: one(99), On: []int{0, 1}},
	}, Heels: []api.HullHeel{port(2), starboard(0), upright(1), port(2)}}
	for want, b := range map[string]api.HullBook{
		textH: bookH(), textG: bookG(), textH + "heel 0 port\nheel 0 starboard\n": adriftBook(), "hull 62 0 2,0,1\n" + cargoH: emptied(),
		"hull 9999 -999:-997 2,1\npiece abcdefghijk9 -9 97:99 -\npiece b 9 1 0\npiece c 0 99 0,1\nheel 2 port\nheel 0 starboard\nheel 1 upright\nheel 2 port\n": big,
		small: {Limit: 5, Ballast: reach(-1, 1), Pieces: []api.HullPiece{{Name: "a", Arm: 1, Weight: one(5)}}},
	} {
		if s, h := hull.Print(b); s != want || h != api.Smooth {
			t.Errorf("%q, %v, want %q", s, h, want)
		}
		if o, n, h := hull.Parse(want); !equal(o, b) || n != 0 || h != api.Smooth {
			t.Errorf("%q: %v, %d, %v", want, o, n, h)
		}
	}
	if s, h := hull.Print(api.HullBook{}); s != "" || h != api.Number {
		t.Errorf("%q, %v", s, h)
	}
}

func TestParseWrongLines(t *testing.T) {
	for s, line := range map[string]int{
		"": 0, "\n": 1, "\n" + small: 1, "hull": 1, "hull\n": 1, "hull 5\n": 1, "hull 5 0\n": 1, "hull 5 0 - -\n": 1, "hull x 0 -\n": 1, "hull 5:6 0 -\n": 1, "hull - 0 -\n": 1, "hull 05 0 -\n": 1, "hull 5 x -\n": 1, "hull 5 0:0 -\n": 1, "hull 5 -0 -\n": 1, "hull 5 - -\n": 1, "hull 5 0 x\n": 1, "hull 5 0 0,\n": 1, "hull 5 0 ,\n": 1, "hull 5 0 0:1\n": 1, "hull 5 0 --\n": 1, "hull  5 0 -\n": 1, " hull 5 0 -\n": 1, "hull 5 0 - \n": 1, "Hull 5 0 -\n": 1, "hull 5 0 -\r\n": 1, "hull 1234567890 0 -\n": 1, "hulls 5 0 -\n": 1,
		"piece a 1 5 -\n": 1, "heel 0 port\n": 1, "piece a 1 5 -\nhull 5 0 -\n": 1, "hull 5 0 -\nhull 5 0 -\n": 2, "hull 5 0 -\n\n": 2,
		"hull 5 0 -\npiece\n": 2, "hull 5 0 -\npiece a 1 5\n": 2, "hull 5 0 -\npiece a 1 5 - -\n": 2, "hull 5 0 -\npiece a x 5 -\n": 2, "hull 5 0 -\npiece a 1:2 5 -\n": 2, "hull 5 0 -\npiece a 1 x -\n": 2, "hull 5 0 -\npiece a 1 5:5 -\n": 2, "hull 5 0 -\npiece a 1 5: -\n": 2, "hull 5 0 -\npiece a 1 5,6 -\n": 2, "hull 5 0 -\npiece a 1 5 x\n": 2, "hull 5 0 -\npiece a 1 5 0;1\n": 2, "hull 5 0 -\npiece  1 5 -\n": 2, "hull 5 0 -\npieces a 1 5 -\n": 2, "hull 5 0 -\nwater a 1 5 -\n": 2, "hull 5 0 -\npiece a 01 5 -\n": 2,
		small + small: 3, small + "\n": 3, small + "piece b 1 1\n": 3, small + "heel\n": 3, small + "heel 0\n": 3, small + "heel 0 port port\n": 3, small + "heel x port\n": 3, small + "heel 0:1 port\n": 3, small + "heel - port\n": 3, small + "heel 0 Port\n": 3, small + "heel 0 left\n": 3, small + "heel 0 0\n": 3, small + "heel 0 -\n": 3, small + "heel  0 port\n": 3, small + "heels 0 port\n": 3, small + "heel port 0\n": 3,
		small + "heel 0 port\npiece b 1 1 -\n": 4, small + "heel 0 port\nhull 5 0 -\n": 4, small + "heel 0 port\nheel 0 port\n\n": 5, "hull 99999 0 -\npiece A 0 0 9\nheel 9 port\nheel\n": 4, strings.Repeat("\n", api.MaxText): 1,
	} {
		if b, n, h := hull.Parse(s); !isZero(b) || n != line || h != api.Shape {
			t.Errorf("%.80q: %v, %d, %v, want line %d", s, b, n, h, line)
		}
	}
}

func TestParseHitches(t *testing.T) {
	for s, want := range map[string]api.Hitch{
		"hull 5 0 -\n":                    api.Number,
		"hull 5 0 -":                      api.Number,
		"hull 5 0 0\n":                    api.Number,
		"hull 5 0 -\nheel 0 port\n":       api.Number,
		"hull -1 0 -\n":                   api.Bounds,
		"hull 10000 0 -\npiece a 1 5 -\n": api.Bounds,
		"hull 999999999 0 -\n":            api.Bounds,
		"hull 5 1:0 -\n":                  api.Bounds,
		"hull 5 -999:-996 -\n":            api.Bounds,
		"hull 5 1000 -\n":                 api.Bounds,
		"hull 5 0 -\npiece A 1 5 -\n":     api.Label,
		"hull 5 0 -\npiece - 1 5 -\n":     api.Label,
		"hull 5 0 -\npiece \xff 1 5 -":    api.Label,
		"hull 5 0 -\npiece a 10 5 -\n":    api.Bounds,
		"hull 5 0 -\npiece a -10 5 -\n":   api.Bounds,
		"hull 5 0 -\npiece a 1 0 -\n":     api.Bounds,
		"hull 5 0 -\npiece a 1 7:5 -\n":   api.Bounds,
		"hull 5 0 -\npiece a 1 5:8 -\n":   api.Bounds,
		"hull 5 0 -\npiece a 1 5 0\n":     api.Missing,
		"hull 5 0 -\npiece a 1 5 -1\n":    api.Missing,
		small + "piece a 1 1 -\n":         api.Double,
		small + "piece b 1 1 1\n":         api.Missing,
		small + "piece b 1 1 0,0\n":       api.Crossed,
		"hull 5 0 1\npiece a 1 5 -\n":     api.Missing,
		"hull 5 0 0,0\npiece a 1 5 -\n":   api.Double,
		"hull 62 0 0\n" + cargoH:          api.Crossed,
		small + "heel 1 port\n":           api.Missing,
		small + "heel -1 port\n":          api.Missing,
		textG + textG[len(textG)-15:] + strings.Repeat("heel 0 starboard\n", 3): api.Number,
		"hull 5 0 -\n" + strings.Repeat("piece a 1 5 -\n", 2000):                api.Number,
		strings.Repeat("h", api.MaxText+1):                                      api.Number,
		strings.Repeat(textG, api.MaxText):                                      api.Number,
	} {
		if b, n, h := hull.Parse(s); !isZero(b) || n != 0 || h != want {
			t.Errorf("%.80q: %v, %d, %v", s, b, n, h)
		}
	}
	// A book without a case is read, with its last line feed or without it.
	if b, n, h := hull.Parse(textH + "heel 0 port\nheel 0 starboard"); !equal(b, adriftBook()) || n != 0 || h != api.Smooth {
		t.Errorf("%v, %d, %v", b, n, h)
	}
	// A text as long as the limit is read: its first line is wrong.
	if b, n, h := hull.Parse(strings.Repeat("h", api.MaxText)); !isZero(b) || n != 1 || h != api.Shape {
		t.Errorf("%v, %d, %v", b, n, h)
	}
}
