package drag_test

import (
	"math/rand"
	"slices"
	"strings"
	"testing"

	"lagan/api"
	"lagan/drag"
	"lagan/model"
)

// The model is a second, slow way to reckon what package drag tells: it writes down all cases.

func sq(row, lane int) api.DragSquare { return api.DragSquare{Row: row, Lane: lane} }

func reach(least, most int) api.Reach { return api.Reach{Least: least, Most: most} }

// bookD is the book D of the chapter.
func bookD() api.DragBook {
	return api.DragBook{
		Rows: 3, Lanes: 3, Slack: 1,
		Ground: []string{"sss", "smm", "s?s"},
		Rocks:  []api.DragSquare{sq(0, 0)},
		Lines: []api.DragLine{
			{Rows: reach(0, 1), Lanes: reach(1, 2), Tide: reach(0, 1), Touched: true},
			{Rows: reach(1, 2), Lanes: reach(0, 0)},
		},
	}
}

// freeLine is the line by which the book E of the chapter has more than D.
func freeLine() api.DragLine { return api.DragLine{Rows: reach(1, 1), Lanes: reach(1, 2)} }

func bookE() api.DragBook {
	b := bookD()
	b.Lines = append(b.Lines, freeLine())
	return b
}

// adriftBook is a book without a case: iron came up at two squares.
func adriftBook() api.DragBook {
	b := bookD()
	b.Leads = []api.DragLead{{At: sq(0, 1), Brought: api.DragIron}, {At: sq(2, 2), Brought: api.DragIron}}
	return b
}

func clone(b api.DragBook) api.DragBook {
	b.Ground = slices.Clone(b.Ground)
	b.Rocks = slices.Clone(b.Rocks)
	b.Lines = slices.Clone(b.Lines)
	b.Leads = slices.Clone(b.Leads)
	return b
}

func equal(a, b api.DragBook) bool {
	return a.Rows == b.Rows && a.Lanes == b.Lanes && a.Slack == b.Slack && slices.Equal(a.Ground, b.Ground) &&
		slices.Equal(a.Rocks, b.Rocks) && slices.Equal(a.Lines, b.Lines) && slices.Equal(a.Leads, b.Leads)
}

func isZero(b api.DragBook) bool {
	return b.Rows == 0 && b.Lanes == 0 && b.Slack == 0 && b.Ground == nil && b.Rocks == nil && b.Lines == nil && b.Leads == nil
}

// squares returns all squares of a chart, in order.
func squares(b api.DragBook) []api.DragSquare {
	var all []api.DragSquare
	for i := range b.Rows * b.Lanes {
		all = append(all, sq(i/b.Lanes, i%b.Lanes))
	}
	return all
}

// unknown returns the squares whose ground is not known, in order.
func unknown(b api.DragBook) []api.DragSquare {
	var all []api.DragSquare
	for _, s := range squares(b) {
		if b.Ground[s.Row][s.Lane] == '?' {
			all = append(all, s)
		}
	}
	return all
}

// modelSwept goes row by row over what a line was dragged over, and says where it was.
func modelSwept(b api.DragBook, l api.DragLine, shift int) []api.DragSquare {
	var all []api.DragSquare
	for row := l.Rows.Least; row <= l.Rows.Most; row++ {
		for lane := l.Lanes.Least; lane <= l.Lanes.Most; lane++ {
			if row+shift >= 0 && row+shift < b.Rows {
				all = append(all, sq(row+shift, lane))
			}
		}
	}
	return all
}

// modelMud tells whether the ground of a square is mud if those unknown squares are.
func modelMud(b api.DragBook, mud []int, s api.DragSquare) bool {
	i := slices.Index(unknown(b), s)
	return b.Ground[s.Row][s.Lane] == 'm' || i >= 0 && slices.Contains(mud, i)
}

// modelTouches tells whether a line that is not slack touches.
func modelTouches(b api.DragBook, wreck api.DragSquare, swept []api.DragSquare) bool {
	return slices.ContainsFunc(swept, func(s api.DragSquare) bool { return s == wreck || slices.Contains(b.Rocks, s) })
}

// modelBrings returns what a lead brings up.
func modelBrings(b api.DragBook, wreck api.DragSquare, mud []int, at api.DragSquare) api.DragKind {
	switch {
	case at == wreck:
		return api.DragIron
	case modelMud(b, mud, at):
		return api.DragMud
	}
	return api.DragSand
}

// modelIs tells whether a case that has no hitch is a case of a book.
func modelIs(b api.DragBook, c api.DragCase) bool {
	if slices.Contains(b.Rocks, c.Wreck) || len(c.Slack) > b.Slack {
		return false
	}
	for _, l := range b.Leads {
		if modelBrings(b, c.Wreck, c.Mud, l.At) != l.Brought {
			return false
		}
	}
	for i, l := range b.Lines {
		if c.Shifts[i] < l.Tide.Least || c.Shifts[i] > l.Tide.Most {
			return false
		}
		swept := modelSwept(b, l, c.Shifts[i])
		if slices.Contains(c.Slack, i) {
			overMud := slices.ContainsFunc(swept, func(s api.DragSquare) bool { return modelMud(b, c.Mud, s) })
			if l.Touched || !overMud {
				return false
			}
		} else if l.Touched != modelTouches(b, c.Wreck, swept) {
			return false
		}
	}
	return true
}

// modelShifts returns all by which the tide can shift lines, each reach wider by some on both sides.
func modelShifts(lines []api.DragLine, wider int) [][]int {
	all := [][]int{{}}
	for _, l := range lines {
		var longer [][]int
		for shift := max(l.Tide.Least-wider, -4); shift <= min(l.Tide.Most+wider, 4); shift++ {
			for _, x := range all {
				longer = append(longer, append(slices.Clone(x), shift))
			}
		}
		all = longer
	}
	return all
}

// modelAll returns all cases that have no hitch, those of the book or not.
func modelAll(b api.DragBook, wider int) []api.DragCase {
	var all []api.DragCase
	for _, s := range squares(b) {
		for _, shifts := range modelShifts(b.Lines, wider) {
			for _, slack := range model.Lists(len(b.Lines)) {
				for _, mud := range model.Lists(len(unknown(b))) {
					all = append(all, api.DragCase{Wreck: s, Shifts: shifts, Slack: slack, Mud: mud})
				}
			}
		}
	}
	return all
}

// modelCases returns the cases of a book.
func modelCases(b api.DragBook) []api.DragCase {
	var cases []api.DragCase
	for _, c := range modelAll(b, 0) {
		if modelIs(b, c) {
			cases = append(cases, c)
		}
	}
	return cases
}

// modelPatches returns the squares of each patch on the chart, the first one of which it lies at.
func modelPatches(b api.DragBook, rows, lanes int) [][]api.DragSquare {
	var all [][]api.DragSquare
	for row := 0; row+rows <= b.Rows; row++ {
		for lane := 0; lane+lanes <= b.Lanes; lane++ {
			var patch []api.DragSquare
			for i := range rows * lanes {
				patch = append(patch, sq(row+i/lanes, lane+i%lanes))
			}
			all = append(all, patch)
		}
	}
	return all
}

// only returns a book with some of the lines and leads, each of which counts as many more as there are lines.
func only(b api.DragBook, list []int) api.DragBook {
	o := clone(b)
	o.Lines, o.Leads = nil, nil
	for _, i := range list {
		if i < len(b.Lines) {
			o.Lines = append(o.Lines, b.Lines[i])
		} else {
			o.Leads = append(o.Leads, b.Leads[i-len(b.Lines)])
		}
	}
	return o
}

// randomChart returns a book without lines and leads, on one square of which at least there is no rock.
func randomChart(r *rand.Rand) api.DragBook {
	b := api.DragBook{Rows: 1 + r.Intn(3), Lanes: 1 + r.Intn(3), Slack: r.Intn(3)}
	left := r.Intn(3)
	for range b.Rows {
		var row strings.Builder
		for range b.Lanes {
			letter := "ssm"[r.Intn(3)]
			if left > 0 && r.Intn(3) == 0 {
				letter = '?'
				left--
			}
			row.WriteByte(letter)
		}
		b.Ground = append(b.Ground, row.String())
	}
	rocks := r.Intn(3)
	for _, s := range squares(b)[1:] {
		if len(b.Rocks) < rocks && r.Intn(4) == 0 {
			b.Rocks = append(b.Rocks, s)
		}
	}
	return b
}

func randomReach(r *rand.Rand, least, most, wide int) api.Reach {
	a := least + r.Intn(most-least+1)
	return reach(a, min(most, a+r.Intn(wide)))
}

// randomBook returns a book, and how it really is: the book is right about it if honest is so.
func randomBook(r *rand.Rand, honest bool) (api.DragBook, api.DragCase) {
	b := randomChart(r)
	var really api.DragCase
	for {
		really.Wreck = sq(r.Intn(b.Rows), r.Intn(b.Lanes))
		if !slices.Contains(b.Rocks, really.Wreck) {
			break
		}
	}
	for i := range unknown(b) {
		if r.Intn(2) == 0 {
			really.Mud = append(really.Mud, i)
		}
	}
	for i := range r.Intn(4) {
		l := api.DragLine{Rows: randomReach(r, 0, b.Rows-1, 3), Lanes: randomReach(r, 0, b.Lanes-1, 3), Tide: randomReach(r, -2, 2, 3)}
		shift := l.Tide.Least + r.Intn(l.Tide.Most-l.Tide.Least+1)
		really.Shifts = append(really.Shifts, shift)
		swept := modelSwept(b, l, shift)
		overMud := slices.ContainsFunc(swept, func(s api.DragSquare) bool { return modelMud(b, really.Mud, s) })
		if overMud && len(really.Slack) < b.Slack && r.Intn(2) == 0 {
			really.Slack = append(really.Slack, i)
		} else {
			l.Touched = modelTouches(b, really.Wreck, swept)
		}
		if !honest && r.Intn(2) == 0 {
			l.Touched = !l.Touched
		}
		b.Lines = append(b.Lines, l)
	}
	for range r.Intn(3) {
		at := sq(r.Intn(b.Rows), r.Intn(b.Lanes))
		brought := modelBrings(b, really.Wreck, really.Mud, at)
		if !honest && r.Intn(2) == 0 {
			brought = api.DragKind(r.Intn(3))
		}
		b.Leads = append(b.Leads, api.DragLead{At: at, Brought: brought})
	}
	return b, really
}

// eachRandom calls a test with several books, some of which have no case.
func eachRandom(many int, test func(r *rand.Rand, b api.DragBook)) {
	r := rand.New(rand.NewSource(2))
	for i := range many {
		b, _ := randomBook(r, i%2 == 0)
		test(r, b)
	}
}

func mustCases(t *testing.T, b api.DragBook) int {
	t.Helper()
	n, h := drag.Cases(b)
	if h != api.Smooth {
		t.Fatalf("Cases(%v): %v", b, h)
	}
	return n
}

func mustWhere(t *testing.T, b api.DragBook) []api.DragSquare {
	t.Helper()
	l, h := drag.Where(b)
	if h != api.Smooth {
		t.Fatalf("Where(%v): %v", b, h)
	}
	return l
}
