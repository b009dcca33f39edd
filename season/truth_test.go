package season_test

import (
	"fmt"
	"math/rand"
	"slices"

	"lagan/api"
	"lagan/bearing"
	"lagan/bell"
	"lagan/drag"
	"lagan/finds"
	"lagan/hull"
	"lagan/model"
	"lagan/mooring"
	"lagan/slack"
	"lagan/stint"
	"lagan/tackle"
)

// truth is how all can be: a case of each book of a layer, and what came up.
type truth struct {
	bearing api.BearingCase
	drag    api.DragCase
	slack   api.SlackCase
	bell    api.BellCase
	stint   []int
	hull    api.HullCase
	tackle  api.TackleCase
	mooring api.MooringCase
	finds   []int
	value   int
}

// is tells whether this was found to be a case.
func is(yes bool, h api.Hitch) bool { return yes && h == smooth }

func bearingCases(b api.BearingChart) (cases []api.BearingCase) {
	for i := range b.Wide * b.High {
		for _, offs := range model.Numberings(b.Compasses) {
			for _, liars := range model.Lists(len(b.Witnesses)) {
				x := api.BearingCase{At: api.BearingSquare{East: i % b.Wide, North: i / b.Wide}, Offs: offs, False: liars}
				if is(bearing.IsCase(b, x)) {
					cases = append(cases, x)
				}
			}
		}
	}
	return cases
}

// unknown returns the squares whose ground is not known, in order.
func unknown(b api.DragBook) (squares []api.DragSquare) {
	for row, ground := range b.Ground {
		for lane, letter := range ground {
			if letter == '?' {
				squares = append(squares, api.DragSquare{Row: row, Lane: lane})
			}
		}
	}
	return squares
}

func dragCases(b api.DragBook) (cases []api.DragCase) {
	var tides []api.Reach
	for _, l := range b.Lines {
		tides = append(tides, l.Tide)
	}
	for i := range b.Rows * b.Lanes {
		for _, shifts := range model.Numberings(tides) {
			for _, slack := range model.Lists(len(b.Lines)) {
				for _, mud := range model.Lists(len(unknown(b))) {
					x := api.DragCase{Wreck: api.DragSquare{Row: i / b.Lanes, Lane: i % b.Lanes}, Shifts: shifts, Slack: slack, Mud: mud}
					if is(drag.IsCase(b, x)) {
						cases = append(cases, x)
					}
				}
			}
		}
	}
	return cases
}

func slackCases(b api.SlackBook) (cases []api.SlackCase) {
	reaches := []api.Reach{b.Shift, b.Clock}
	for _, t := range b.Turns {
		reaches = append(reaches, t.Half)
	}
	for _, l := range model.Numberings(reaches) {
		x := api.SlackCase{Shift: l[0], Clock: l[1], Halfs: l[2:]}
		if is(slack.IsCase(b, x)) {
			cases = append(cases, x)
		}
	}
	return cases
}

func bellCases(b api.BellBook) (cases []api.BellCase) {
	reaches := []api.Reach{b.Leak}
	for _, m := range b.Men {
		reaches = append(reaches, m.Breath)
	}
	for _, l := range model.Numberings(reaches) {
		x := api.BellCase{Leak: l[0], Breaths: l[1:]}
		if is(bell.IsCase(b, x)) {
			cases = append(cases, x)
		}
	}
	return cases
}

func stintCases(b api.StintBook) (cases [][]int) {
	for _, l := range model.Numberings(b.Places) {
		if is(stint.IsCase(b, l)) {
			cases = append(cases, l)
		}
	}
	return cases
}

func hullCases(b api.HullBook) (cases []api.HullCase) {
	reaches := []api.Reach{b.Ballast}
	for _, p := range b.Pieces {
		reaches = append(reaches, p.Weight)
	}
	for _, l := range model.Numberings(reaches) {
		x := api.HullCase{Ballast: l[0], Weights: l[1:]}
		if is(hull.IsCase(b, x)) {
			cases = append(cases, x)
		}
	}
	return cases
}

func tackleCases(b api.TackleBook) (cases []api.TackleCase) {
	var reaches []api.Reach
	for _, p := range b.Parts {
		reaches = append(reaches, p.Bears)
	}
	for _, p := range b.Pieces {
		reaches = append(reaches, p.Weight)
	}
	for _, l := range model.Numberings(reaches) {
		x := api.TackleCase{Bears: l[:len(b.Parts)], Weights: l[len(b.Parts):]}
		if is(tackle.IsCase(b, x)) {
			cases = append(cases, x)
		}
	}
	return cases
}

func mooringCases(b api.MooringBook) (cases []api.MooringCase) {
	reaches := slices.Clone(b.Grounds)
	for _, w := range b.Winds {
		reaches = append(reaches, w.Strength)
	}
	for _, l := range model.Numberings(reaches) {
		x := api.MooringCase{Grounds: l[:3], Strengths: l[3:]}
		if is(mooring.IsCase(b, x)) {
			cases = append(cases, x)
		}
	}
	return cases
}

func findsCases(b api.FindsBook) (cases [][]int) {
	reaches := slices.Repeat([]api.Reach{reach(-1, len(b.Lines)-1)}, len(b.Finds))
	for _, l := range model.Numberings(reaches) {
		if is(finds.IsCase(b, l)) {
			cases = append(cases, l)
		}
	}
	return cases
}

// modelCases returns how many cases the books of the layers have.
func modelCases(b api.SeasonBook) []int {
	return []int{
		len(bearingCases(b.Chart)), len(dragCases(b.Drag)), len(slackCases(b.Slack)), len(bellCases(b.Bell)), len(stintCases(b.Stint)),
		len(hullCases(b.Hull)), len(tackleCases(b.Tackle)), len(mooringCases(b.Mooring)), len(findsCases(b.Finds)),
	}
}

// someTruth returns one of the ways in which all can be, if there is one.
func someTruth(r *rand.Rand, b api.SeasonBook) (x truth, found bool) {
	if slices.Contains(modelCases(b), 0) {
		return x, false
	}
	return truth{
		bearing: oneOf(r, bearingCases(b.Chart)),
		drag:    oneOf(r, dragCases(b.Drag)),
		slack:   oneOf(r, slackCases(b.Slack)),
		bell:    oneOf(r, bellCases(b.Bell)),
		stint:   oneOf(r, stintCases(b.Stint)),
		hull:    oneOf(r, hullCases(b.Hull)),
		tackle:  oneOf(r, tackleCases(b.Tackle)),
		mooring: oneOf(r, mooringCases(b.Mooring)),
		finds:   oneOf(r, findsCases(b.Finds)),
		value:   b.Award.Value.Least + r.Intn(b.Award.Value.Most-b.Award.Value.Least+1),
	}, true
}

func oneOf[T any](r *rand.Rand, things []T) T { return things[r.Intn(len(things))] }

// denied returns the parts of a book of which a truth is no case any more.
func (x truth) denied(b api.SeasonBook) (parts []int) {
	for part, isCase := range []bool{
		is(bearing.IsCase(b.Chart, x.bearing)), is(drag.IsCase(b.Drag, x.drag)), is(slack.IsCase(b.Slack, x.slack)),
		is(bell.IsCase(b.Bell, x.bell)), is(stint.IsCase(b.Stint, x.stint)), is(hull.IsCase(b.Hull, x.hull)),
		is(tackle.IsCase(b.Tackle, x.tackle)), is(mooring.IsCase(b.Mooring, x.mooring)), is(finds.IsCase(b.Finds, x.finds)),
		model.In(b.Award.Value, x.value),
	} {
		if !isCase {
			parts = append(parts, part)
		}
	}
	return parts
}

// about returns a reach that has a number, within bounds.
func about(r *rand.Rand, n, least, most int) api.Reach {
	return reach(max(n-r.Intn(3), least), min(n+r.Intn(3), most))
}

func number(is bool) int {
	if is {
		return 1
	}
	return 0
}

// rightEntry returns an entry of a kind that is right if a truth is so; found is false if there is nothing to be entered.
func (x truth) rightEntry(r *rand.Rand, b api.SeasonBook, kind api.SeasonKind) (e api.SeasonEntry, found bool) {
	e = api.SeasonEntry{Kind: kind, Hand: r.Intn(2)}
	switch kind {
	case api.SeasonTrust:
		e.A = r.Intn(len(b.Chart.Witnesses) + 1)
		return e, e.A < len(b.Chart.Witnesses) && !slices.Contains(x.bearing.False, e.A)
	case api.SeasonSwing:
		e.A = r.Intn(len(b.Chart.Compasses))
		e.M = about(r, x.bearing.Offs[e.A], -3, 3)
	case api.SeasonSound:
		at := api.DragSquare{Row: r.Intn(b.Drag.Rows), Lane: r.Intn(b.Drag.Lanes)}
		e.A, e.B, e.C = at.Row, at.Lane, int(x.brought(b.Drag, at))
	case api.SeasonSteady:
		if len(b.Drag.Lines) == 0 {
			return e, false
		}
		e.A = r.Intn(len(b.Drag.Lines))
		e.M = about(r, x.drag.Shifts[e.A], -4, 4)
	case api.SeasonWatch:
		e.A = 30 + r.Intn(50)
		windows, _ := slack.Windows(b.Slack, x.slack)
		e.C = number(slices.ContainsFunc(windows, func(w api.Reach) bool { return model.In(w, e.A-x.slack.Clock) }))
	case api.SeasonBlow:
		e.M = about(r, x.slack.Shift, -9, 9)
	case api.SeasonMark:
		e.A = 1 + r.Intn(b.Bell.Minutes)
		air, _ := bell.Play(b.Bell, x.bell, b.Bell.Sent)
		dry, _ := bell.Dry(b.Bell, air[e.A-1])
		e.M = about(r, dry, 0, 99)
	case api.SeasonSend:
		e.A = 1 + r.Intn(b.Bell.Minutes)
	case api.SeasonLine:
		e.A, e.B = r.Intn(len(b.Stint.Places)), 7+r.Intn(10)
		e.C = number(x.stint[e.A] <= e.B)
	case api.SeasonHurt:
		e.A, e.B = 5+r.Intn(15), 5+r.Intn(15)
	default:
		return x.rightAbove(r, b, e)
	}
	return e, true
}

// rightAbove is rightEntry for the kinds of entries of what is done above the water.
func (x truth) rightAbove(r *rand.Rand, b api.SeasonBook, e api.SeasonEntry) (api.SeasonEntry, bool) {
	switch e.Kind {
	case api.SeasonHeel:
		e.A = r.Intn(len(b.Hull.Out) + 1)
		switch moment := x.moment(b.Hull, b.Hull.Out[:e.A]); {
		case moment < 0:
			e.C = int(api.HullPort)
		case moment > 0:
			e.C = int(api.HullStarboard)
		}
	case api.SeasonLift:
		free, _ := hull.Free(b.Hull)
		if len(free) == 0 {
			return e, false
		}
		e.A = oneOf(r, free)
		moment := x.moment(b.Hull, append(slices.Clone(b.Hull.Out), e.A))
		return e, max(moment, -moment) <= b.Hull.Limit
	case api.SeasonTry:
		e.A, e.B = r.Intn(len(b.Tackle.Gears)), 5+r.Intn(20)
		e.C = number(x.lifts(b.Tackle, e.A, e.B))
	case api.SeasonNight:
		e.A = r.Intn(len(b.Mooring.Winds))
		e.C = number(x.rides(b.Mooring, e.A))
	case api.SeasonClean:
		return x.rightClean(r, b.Finds, e)
	case api.SeasonNote:
		e.A = r.Intn(len(b.Finds.Finds) + 1)
		e.B = e.A + 1
		if e.B >= len(b.Finds.Finds) {
			return e, false
		}
		one, two := x.finds[e.A], x.finds[e.B]
		e.C = number(one >= 0 && two >= 0 && b.Finds.Lines[one].Ship == b.Finds.Lines[two].Ship)
	case api.SeasonValue:
		e.M = about(r, x.value, 0, 99999)
	case api.SeasonSign:
		e.A, e.S = r.Intn(10), fmt.Sprint("dee", len(b.Award.Men))
	}
	return e, true
}

// rightClean returns the entry by which a worn letter of a find is read: that of its line, or any one of a stray.
func (x truth) rightClean(r *rand.Rand, b api.FindsBook, e api.SeasonEntry) (api.SeasonEntry, bool) {
	for find, mark := range b.Finds {
		for place, letter := range mark {
			if letter != '?' || r.Intn(2) == 0 {
				continue
			}
			e.A, e.B, e.S = find, place, "q"
			if line := x.finds[find]; line >= 0 {
				e.S = b.Lines[line].Mark[place : place+1]
			}
			return e, true
		}
	}
	return e, false
}

// brought returns what a lead brings up at a square.
func (x truth) brought(b api.DragBook, at api.DragSquare) api.DragKind {
	if at == x.drag.Wreck {
		return api.DragIron
	}
	isMud := b.Ground[at.Row][at.Lane] == 'm'
	if i := slices.Index(unknown(b), at); i >= 0 {
		isMud = slices.Contains(x.drag.Mud, i)
	}
	if isMud {
		return api.DragMud
	}
	return api.DragSand
}

func (x truth) moment(b api.HullBook, out []int) int {
	sorted := slices.Sorted(slices.Values(out))
	moment, _ := hull.Moment(b, x.hull, sorted)
	return moment
}

// lifts tells whether a gear lifts a load.
func (x truth) lifts(b api.TackleBook, gear, load int) bool {
	pulls, _ := tackle.Pulls(b, gear, load)
	for i, part := range b.Gears[gear] {
		if pulls[i] > x.tackle.Bears[part] {
			return false
		}
	}
	return pulls[len(pulls)-1] <= b.Winch
}

// rides tells whether the lighter rides in a wind.
func (x truth) rides(b api.MooringBook, wind int) bool {
	pulls, _ := mooring.Pulls(b, x.mooring, wind)
	for anchor, pull := range pulls {
		if hold, _ := mooring.Hold(b, x.mooring, anchor); pull > hold {
			return false
		}
	}
	return slices.Max(pulls) > 0
}
