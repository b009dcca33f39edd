package drag_test

import (
	"math/rand"
	"slices"
	"testing"

	"lagan/api"
	"lagan/drag"
	"lagan/model"
)

// Tests of P2.6 to P2.11: what holds of all books.

// P2.6, P0.4
func TestWhateverItIs(t *testing.T) {
	r := rand.New(rand.NewSource(6))
	for range 300 {
		b, really := randomBook(r, true)
		if is, h := drag.IsCase(b, really); !is || h != api.Smooth {
			t.Fatalf("%v, %v: no case: %v", b, really, h)
		}
		if l := mustWhere(t, b); !slices.Contains(l, really.Wreck) {
			t.Errorf("%v, %v: Where: %v", b, really, l)
		}
		checkSquaresTold(t, b, really)
		checkLinesTold(t, b, really)
		checkPlansTold(t, b, really)
		checkNewsTold(t, b, really)
	}
}

// isTold tells whether what is known agrees with what is so.
func isTold(u api.Known, is bool) bool { return u == api.Unsure || (u == api.Surely) == is }

// checkSquaresTold checks that what is told of squares is so.
func checkSquaresTold(t *testing.T, b api.DragBook, really api.DragCase) {
	t.Helper()
	unswept, _ := drag.Unswept(b)
	for _, s := range squares(b) {
		if u, _ := drag.Lies(b, s); !isTold(u, s == really.Wreck) {
			t.Errorf("%v, %v: Lies %v: %v", b, really, s, u)
		}
		if u, _ := drag.Muddy(b, s); !isTold(u, modelMud(b, really.Mud, s)) {
			t.Errorf("%v, %v: Muddy %v: %v", b, really, s, u)
		}
		for i := range b.Lines {
			if l, _ := drag.Swept(b, i, really.Shifts[i]); slices.Contains(l, s) && slices.Contains(unswept, s) {
				t.Errorf("%v, %v: Unswept: %v", b, really, unswept)
			}
		}
	}
}

// checkLinesTold checks that what is told of lines is so.
func checkLinesTold(t *testing.T, b api.DragBook, really api.DragCase) {
	t.Helper()
	for i, shift := range really.Shifts {
		if l, _ := drag.Shifts(b, i); !slices.Contains(l, shift) {
			t.Errorf("%v, %v: Shifts %d: %v", b, really, i, l)
		}
		if u, _ := drag.Missed(b, i); !isTold(u, slices.Contains(really.Slack, i)) {
			t.Errorf("%v, %v: Missed %d: %v", b, really, i, u)
		}
	}
	if l, k, h := drag.Clash(b); len(l) > 0 || len(k) > 0 || h != api.Smooth {
		t.Errorf("%v, %v: Clash: %v, %v, %v", b, really, l, k, h)
	}
}

// checkPlansTold checks that plans find the wreck.
func checkPlansTold(t *testing.T, b api.DragBook, really api.DragCase) {
	t.Helper()
	for rows := 1; rows <= b.Rows; rows++ {
		for lanes := 1; lanes <= b.Lanes; lanes++ {
			at, found, _ := drag.Fewest(b, rows, lanes)
			if found && !slices.ContainsFunc(at, func(s api.DragSquare) bool { return isIn(really.Wreck, s, rows, lanes) }) {
				t.Errorf("%v, %v: Fewest of %d, %d: %v", b, really, rows, lanes, at)
			}
		}
	}
}

// isIn tells whether a square is in the patch at a square.
func isIn(s, at api.DragSquare, rows, lanes int) bool {
	return s.Row >= at.Row && s.Row < at.Row+rows && s.Lane >= at.Lane && s.Lane < at.Lane+lanes
}

// checkNewsTold checks that no news that are right are refused.
func checkNewsTold(t *testing.T, b api.DragBook, really api.DragCase) {
	t.Helper()
	for _, s := range squares(b) {
		l := api.DragLead{At: s, Brought: modelBrings(b, really.Wreck, really.Mud, s)}
		if _, h := drag.Sound(b, l); len(b.Leads) < api.MaxDragLeads && h != api.Smooth {
			t.Errorf("%v, %v: Sound %v: %v", b, really, l, h)
		}
		for shift := -1; shift <= 1 && len(b.Lines) < api.MaxDragLines; shift++ {
			l := api.DragLine{Rows: reach(s.Row, s.Row), Lanes: reach(s.Lane, s.Lane), Tide: reach(-1, 1)}
			l.Touched = modelTouches(b, really.Wreck, modelSwept(b, l, shift))
			if _, h := drag.Drag(b, l); h != api.Smooth {
				t.Errorf("%v, %v: Drag %v: %v", b, really, l, h)
			}
		}
	}
	for i, shift := range really.Shifts {
		if _, h := drag.Steady(b, i, reach(shift, shift)); h != api.Smooth {
			t.Errorf("%v, %v: Steady %d: %v", b, really, i, h)
		}
	}
	if _, h := drag.Taut(b, len(really.Slack)); h != api.Smooth {
		t.Errorf("%v, %v: Taut: %v", b, really, h)
	}
}

// P2.7
func TestNoOthers(t *testing.T) {
	eachRandom(150, func(_ *rand.Rand, b api.DragBook) {
		where, _ := drag.Where(b)
		for _, s := range squares(b) {
			_, h := drag.Sound(b, api.DragLead{At: s, Brought: api.DragIron})
			if len(b.Leads) < api.MaxDragLeads && (h == api.Smooth) != slices.Contains(where, s) {
				t.Errorf("Where(%v): %v, but iron at %v: %v", b, where, s, h)
			}
		}
		for i := range b.Lines {
			shifts, _ := drag.Shifts(b, i)
			for shift := -4; shift <= 4; shift++ {
				if _, h := drag.Steady(b, i, reach(shift, shift)); (h == api.Smooth) != slices.Contains(shifts, shift) {
					t.Errorf("Shifts(%v, %d): %v, but steadied to %d: %v", b, i, shifts, shift, h)
				}
			}
		}
	})
}

// P2.7
func TestUnsure(t *testing.T) {
	eachRandom(60, func(_ *rand.Rand, b api.DragBook) {
		var cases []api.DragCase
		for _, c := range modelAll(b, 0) {
			if is, _ := drag.IsCase(b, c); is {
				cases = append(cases, c)
			}
		}
		check := func(u api.Known, h api.Hitch, isSo func(c api.DragCase) bool) {
			is := slices.ContainsFunc(cases, isSo)
			isNot := slices.ContainsFunc(cases, func(c api.DragCase) bool { return !isSo(c) })
			if h == api.Smooth && (u == api.Unsure) != (is && isNot) {
				t.Errorf("%v: %v, but %v, %v", b, u, is, isNot)
			}
		}
		for _, s := range squares(b) {
			u, h := drag.Lies(b, s)
			check(u, h, func(c api.DragCase) bool { return c.Wreck == s })
			u, h = drag.Muddy(b, s)
			check(u, h, func(c api.DragCase) bool { return modelMud(b, c.Mud, s) })
		}
		for i := range b.Lines {
			u, h := drag.Missed(b, i)
			check(u, h, func(c api.DragCase) bool { return slices.Contains(c.Slack, i) })
		}
	})
}

// P2.8
func TestSweeping(t *testing.T) {
	b := api.DragBook{Rows: 5, Lanes: 5, Ground: slices.Repeat([]string{"sssss"}, 5)}
	swept := func(rows, lanes api.Reach, shift int) []api.DragSquare {
		one := clone(b)
		one.Lines = []api.DragLine{{Rows: rows, Lanes: lanes}}
		l, h := drag.Swept(one, 0, shift)
		if h != api.Smooth {
			t.Fatalf("%v, %v, %d: %v", rows, lanes, shift, h)
		}
		return l
	}
	for least := range 5 {
		for most := least; most < 5; most++ {
			for shift := -4; shift <= 4; shift++ {
				lanes := reach(least, most)
				whole := swept(reach(least, most), lanes, shift)
				var shifted []api.DragSquare
				if a, z := max(least+shift, 0), min(most+shift, 4); a <= z {
					shifted = swept(reach(a, z), lanes, 0)
				}
				if !slices.Equal(whole, shifted) {
					t.Errorf("%d to %d, shifted by %d: %v, and %v", least, most, shift, whole, shifted)
				}
				for between := least; between < most; between++ {
					one, other := swept(reach(least, between), lanes, shift), swept(reach(between+1, most), lanes, shift)
					if !sameSquares(whole, one, other) {
						t.Errorf("%d to %d to %d: %v, %v, %v", least, between, most, whole, one, other)
					}
					one, other = swept(lanes, reach(least, between), shift), swept(lanes, reach(between+1, most), shift)
					if !sameSquares(whole, one, other) {
						t.Errorf("lanes %d to %d to %d: %v, %v, %v", least, between, most, whole, one, other)
					}
				}
			}
		}
	}
}

// sameSquares tells whether two lists together have the squares of a whole one.
func sameSquares(whole, one, other []api.DragSquare) bool {
	return len(whole) == len(one)+len(other) && model.Contains(whole, one) && model.Contains(whole, other)
}

// P2.9
func TestPlansFind(t *testing.T) {
	told := 0
	eachRandom(150, func(r *rand.Rand, b api.DragBook) {
		where, h := drag.Where(b)
		if h != api.Smooth {
			return
		}
		rows, lanes := 1+r.Intn(b.Rows), 1+r.Intn(b.Lanes)
		at, found, _ := drag.Fewest(b, rows, lanes)
		patches := modelPatches(b, rows, lanes)
		for _, l := range model.Lists(len(patches)) {
			if len(l) <= api.MaxDragPlan && (!found || len(l) < len(at)) && modelFinds(patches, l, where) {
				t.Errorf("Fewest(%v, %d, %d): %v, %v, but %v find her", b, rows, lanes, at, found, l)
			}
		}
		if checkDragged(t, b, rows, lanes) {
			told++
		}
		if taut, h := drag.Taut(b, 0); h == api.Smooth && checkDragged(t, taut, rows, lanes) {
			told++
		}
	})
	if told < 20 {
		t.Errorf("Next told something %d times", told)
	}
}

// checkDragged checks that no more squares are left than Next says once a line was dragged there that cannot be slack, and returns whether one was.
func checkDragged(t *testing.T, b api.DragBook, rows, lanes int) bool {
	t.Helper()
	at, left, found, h := drag.Next(b, rows, lanes)
	if many := len(mustWhere(t, b)); found != (left < many) || h != api.Smooth {
		t.Errorf("Next(%v, %d, %d): %v, %d, %v, %v, of %d squares", b, rows, lanes, at, left, found, h, many)
	}
	if !found || len(b.Lines) == api.MaxDragLines || canBeSlack(b, at, rows, lanes) {
		return false
	}
	for _, touched := range []bool{true, false} {
		l := api.DragLine{Rows: reach(at.Row, at.Row+rows-1), Lanes: reach(at.Lane, at.Lane+lanes-1), Touched: touched}
		o, h := drag.Drag(b, l)
		if h == api.Smooth && len(mustWhere(t, o)) > left {
			t.Errorf("Next(%v, %d, %d): %v, %d, but %v are left", b, rows, lanes, at, left, mustWhere(t, o))
		}
	}
	return true
}

// canBeSlack tells whether a line over a patch can be slack.
func canBeSlack(b api.DragBook, at api.DragSquare, rows, lanes int) bool {
	return b.Slack > 0 && slices.ContainsFunc(squares(b), func(s api.DragSquare) bool {
		return isIn(s, at, rows, lanes) && b.Ground[s.Row][s.Lane] != 's'
	})
}

// P2.10, P0.5
func TestNews(t *testing.T) {
	learnt := 0
	eachRandom(100, func(r *rand.Rand, b api.DragBook) {
		check := func(o api.DragBook, h api.Hitch, noCase bool) {
			if h == api.Smooth {
				learnt++
				checkLearnt(t, b, o, noCase)
			}
		}
		for range 6 {
			l := api.DragLine{Rows: randomReach(r, 0, b.Rows-1, 3), Lanes: randomReach(r, 0, b.Lanes-1, 3), Tide: randomReach(r, -2, 2, 3), Touched: r.Intn(2) == 0}
			o, h := drag.Drag(b, l)
			check(o, h, false)
		}
		for _, s := range squares(b) {
			for kind := range 3 {
				o, h := drag.Sound(b, api.DragLead{At: s, Brought: api.DragKind(kind)})
				check(o, h, true)
			}
		}
		for i := range b.Lines {
			for shift := -4; shift <= 4; shift++ {
				o, h := drag.Steady(b, i, reach(shift, min(4, shift+1)))
				check(o, h, true)
			}
		}
		for slack := range b.Slack + 1 {
			o, h := drag.Taut(b, slack)
			check(o, h, true)
		}
	})
	if learnt < 100 {
		t.Errorf("%d news", learnt)
	}
}

// checkLearnt checks that the new book has nothing that the old one rules out.
func checkLearnt(t *testing.T, before, after api.DragBook, noCase bool) {
	t.Helper()
	if noCase && mustCases(t, after) > mustCases(t, before) {
		t.Errorf("%v has more cases than %v", after, before)
	}
	if !model.Contains(mustWhere(t, before), mustWhere(t, after)) {
		t.Errorf("%v has more squares than %v", after, before)
	}
	kept := func(was, is api.Known) {
		if was != api.Unsure && is != was {
			t.Errorf("%v takes back of %v what was sure", after, before)
		}
	}
	for _, s := range squares(before) {
		was, _ := drag.Lies(before, s)
		is, _ := drag.Lies(after, s)
		kept(was, is)
		was, _ = drag.Muddy(before, s)
		is, _ = drag.Muddy(after, s)
		kept(was, is)
	}
	for i := range before.Lines {
		was, _ := drag.Missed(before, i)
		is, _ := drag.Missed(after, i)
		kept(was, is)
		shifts, _ := drag.Shifts(before, i)
		if l, _ := drag.Shifts(after, i); !model.Contains(shifts, l) {
			t.Errorf("%v can shift the line %d by %v, %v by %v", after, i, l, before, shifts)
		}
	}
	unswept, _ := drag.Unswept(before)
	if l, _ := drag.Unswept(after); len(before.Lines) == len(after.Lines) && !model.Contains(l, unswept) {
		t.Errorf("%v: %v, but %v: %v", before, unswept, after, l)
	}
	for rows := 1; rows <= before.Rows; rows++ {
		was, found, _ := drag.Fewest(before, rows, 1)
		if is, still, _ := drag.Fewest(after, rows, 1); found && (!still || len(is) > len(was)) {
			t.Errorf("%v: %v, but %v: %v", before, was, after, is)
		}
	}
}

// P2.10
func TestWhatClashesDoesSoAlone(t *testing.T) {
	eachRandom(150, func(_ *rand.Rand, b api.DragBook) {
		lines, leads, h := drag.Clash(b)
		all := slices.Clone(lines)
		for _, i := range leads {
			all = append(all, len(b.Lines)+i)
		}
		clashes := func(l []int) bool { return mustCases(t, only(b, l)) == 0 }
		if h != api.Smooth || len(all) == 0 {
			if mustCases(t, b) == 0 {
				t.Errorf("Clash(%v): %v, %v, %v", b, lines, leads, h)
			}
			return
		}
		if !clashes(all) {
			t.Errorf("Clash(%v): %v, %v, but they have a case", b, lines, leads)
		}
		for _, l := range model.Lists(len(b.Lines) + len(b.Leads)) {
			if len(l) < len(all) && clashes(l) {
				t.Errorf("Clash(%v): %v, %v, but %v clash", b, lines, leads, l)
			}
		}
	})
}

// P2.11
func TestTurned(t *testing.T) {
	eachRandom(150, func(_ *rand.Rand, b api.DragBook) {
		turned := turn(b)
		if n, m := mustCases(t, b), mustCases(t, turned); n != m {
			t.Errorf("Cases(%v): %d, of %v: %d", b, n, turned, m)
		}
		where, h := drag.Where(b)
		l, k := drag.Where(turned)
		for i, s := range where {
			where[i] = turnSquare(b, s)
		}
		if len(l) != len(where) || !model.Contains(l, where) || h != k {
			t.Errorf("Where(%v): %v, of %v: %v", b, where, turned, l)
		}
	})
}

// turnSquare returns where a square is on the chart whose lanes are read from the other end.
func turnSquare(b api.DragBook, s api.DragSquare) api.DragSquare { return sq(s.Row, b.Lanes-1-s.Lane) }

// turn returns the book whose lanes are read from the other end.
func turn(b api.DragBook) api.DragBook {
	o := clone(b)
	for i, row := range b.Ground {
		letters := []byte(row)
		slices.Reverse(letters)
		o.Ground[i] = string(letters)
	}
	for i, s := range b.Rocks {
		o.Rocks[i] = turnSquare(b, s)
	}
	slices.SortFunc(o.Rocks, func(a, z api.DragSquare) int { return 9*(a.Row-z.Row) + a.Lane - z.Lane })
	for i, l := range b.Lines {
		o.Lines[i].Lanes = reach(b.Lanes-1-l.Lanes.Most, b.Lanes-1-l.Lanes.Least)
	}
	for i, l := range b.Leads {
		o.Leads[i].At = turnSquare(b, l.At)
	}
	return o
}
