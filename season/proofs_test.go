package season_test

import (
	"slices"

	"lagan/api"
	"lagan/bearing"
	"lagan/bell"
	"lagan/hull"
	"lagan/model"
	"lagan/stint"
)

// What a proof shows, by all cases of the books, and the proofs that there can be.

// isAscending tells whether a list has numbers from least to most, each above the one before it.
func isAscending(list []int, least, most int) bool {
	for i, n := range list {
		if n < least || n > most || i > 0 && n <= list[i-1] {
			return false
		}
	}
	return true
}

// always tells whether something is so of each of several things, of which there are some.
func always[T any](things []T, isSo func(T) bool) bool {
	isNot := func(x T) bool { return !isSo(x) }
	return len(things) > 0 && !slices.ContainsFunc(things, isNot)
}

// modelShows tells whether a proof shows a yes.
func modelShows(b api.SeasonBook, q api.SeasonAsk, proof []int) bool {
	switch q.Kind {
	case api.SeasonFalse:
		return isAscending(proof, 0, len(b.Chart.Witnesses)-1) && len(proof) <= q.A && areRight(b.Chart, proof)
	case api.SeasonPlan:
		return len(proof) <= q.A && goesOn(b.Bell, proof) && always(bellCases(b.Bell), func(x api.BellCase) bool { return isGood(b.Bell, x, proof) })
	case api.SeasonRota:
		rota, ok := modelRota(proof)
		return ok && len(rota) == len(b.Stint.Dives) && always(stintCases(b.Stint), func(depths []int) bool { return isRota(b.Stint, depths, rota) })
	case api.SeasonOrder:
		return always(hullCases(b.Hull), func(x api.HullCase) bool { return isOrder(b.Hull, x, proof) })
	case api.SeasonGears:
		return isAscending(proof, 0, len(b.Tackle.Gears)-1) && len(proof) <= q.A && liftAll(b.Tackle, proof)
	case api.SeasonOurs:
		return isAscending(proof, 0, len(b.Finds.Finds)-1) && len(proof) >= q.A && always(findsCases(b.Finds), func(lines []int) bool { return areOurs(b.Finds, lines, proof) })
	}
	return len(proof) == 0 && modelCases(b)[q.A] == 1
}

// areRight tells whether all witnesses but some are right about some square, with some compasses.
func areRight(b api.BearingChart, but []int) bool {
	for i := range b.Wide * b.High {
		at := api.BearingSquare{East: i % b.Wide, North: i / b.Wide}
		for _, offs := range model.Numberings(b.Compasses) {
			right := 0
			for j, w := range b.Witnesses {
				to, h := bearing.True(w.At, at)
				if slices.Contains(but, j) || h == api.Missing || (to+offs[w.Compass]+8)%8 == w.Bearing {
					right++
				}
			}
			if right == len(b.Witnesses) {
				return true
			}
		}
	}
	return false
}

func goesOn(b api.BellBook, plan []int) bool {
	if !isAscending(plan, 1, b.Minutes) || len(plan) > b.Casks || !model.Contains(plan, b.Sent) {
		return false
	}
	past := slices.Clone(b.Sent)
	for _, m := range b.Marks {
		past = append(past, m.Minute)
	}
	for _, minute := range plan {
		if !slices.Contains(b.Sent, minute) && len(past) > 0 && minute <= slices.Max(past) {
			return false
		}
	}
	return true
}

func isGood(b api.BellBook, x api.BellCase, plan []int) bool {
	air, _ := bell.Play(b, x, plan)
	return always(air, func(measures int) bool {
		dry, h := bell.Dry(b, measures)
		return dry >= b.Least && h == smooth
	})
}

// modelRota returns the men of each dive, each of which has a -1 behind it.
func modelRota(proof []int) (rota [][]int, ok bool) {
	var men []int
	for _, n := range proof {
		if n == -1 {
			rota, men = append(rota, men), nil
		} else {
			men = append(men, n)
		}
	}
	return rota, len(men) == 0
}

func isRota(b api.StintBook, depths []int, rota [][]int) bool {
	for i, d := range b.Dives {
		if len(rota[i]) != d.Men || !isAscending(rota[i], 0, len(b.Men)-1) {
			return false
		}
		stay, _ := stint.Stay(b, depths[d.Place])
		for _, m := range rota[i] {
			if b.Men[m].Deepest < depths[d.Place] || stay < d.Ticks {
				return false
			}
			for j := range i {
				if slices.Contains(rota[j], m) && !is(stint.Apart(b, i, j)) {
					return false
				}
			}
		}
	}
	return true
}

func isOrder(b api.HullBook, x api.HullCase, order []int) bool {
	out := slices.Clone(b.Out)
	for _, piece := range order {
		if piece < 0 || piece >= len(b.Pieces) || slices.Contains(out, piece) {
			return false
		}
		for i, p := range b.Pieces {
			if slices.Contains(p.On, piece) && !slices.Contains(out, i) {
				return false
			}
		}
		out = append(out, piece)
		moment, _ := hull.Moment(b, x, slices.Sorted(slices.Values(out)))
		if max(moment, -moment) > b.Limit {
			return false
		}
	}
	return len(out) == len(b.Pieces)
}

// liftAll tells whether each piece is surely lifted by one of some gears.
func liftAll(b api.TackleBook, gears []int) bool {
	for piece := range b.Pieces {
		lifts := func(gear int) bool {
			return always(tackleCases(b), func(x api.TackleCase) bool { return truth{tackle: x}.lifts(b, gear, x.Weights[piece]) })
		}
		if !slices.ContainsFunc(gears, lifts) {
			return false
		}
	}
	return true
}

func areOurs(b api.FindsBook, lines, things []int) bool {
	for _, find := range things {
		if lines[find] < 0 || b.Lines[lines[find]].Ship != 0 {
			return false
		}
	}
	return true
}

// modelAskHitch returns the hitch of a question.
func modelAskHitch(b api.SeasonBook, q api.SeasonAsk) api.Hitch {
	books := map[api.SeasonQuestion]int{api.SeasonPlan: 3, api.SeasonRota: 4, api.SeasonOrder: 5, api.SeasonGears: 6, api.SeasonOurs: 8}
	part, needsCase := books[q.Kind]
	switch {
	case q.Kind < api.SeasonFalse || q.Kind > api.SeasonSettled:
		return api.Bounds
	case (q.Kind == api.SeasonRota || q.Kind == api.SeasonOrder) && q.A != 0:
		return api.Shape
	case q.Kind == api.SeasonSettled && (q.A < 0 || q.A >= layers):
		return api.Missing
	case needsCase && modelCases(b)[part] == 0:
		return api.Adrift
	}
	return smooth
}

// modelProofs returns the lists among which there is a proof if there is one, the one that is told first.
func modelProofs(b api.SeasonBook, kind api.SeasonQuestion) [][]int {
	var lists [][]int
	switch kind {
	case api.SeasonFalse:
		lists = model.Lists(len(b.Chart.Witnesses))
	case api.SeasonPlan:
		for _, l := range model.Lists(b.Bell.Minutes + 1) {
			if !slices.Contains(l, 0) {
				lists = append(lists, l)
			}
		}
	case api.SeasonRota:
		lists = [][]int{nil}
		for range b.Stint.Dives {
			var longer [][]int
			for _, l := range lists {
				for _, men := range model.Lists(len(b.Stint.Men)) {
					longer = append(longer, slices.Concat(l, men, []int{-1}))
				}
			}
			lists = longer
		}
	case api.SeasonOrder:
		left := slices.DeleteFunc(model.UpTo(len(b.Hull.Pieces)), func(piece int) bool { return slices.Contains(b.Hull.Out, piece) })
		return model.Permutations(left)
	case api.SeasonGears:
		lists = model.Lists(len(b.Tackle.Gears))
	case api.SeasonOurs:
		lists = model.Lists(len(b.Finds.Finds))
		slices.SortStableFunc(lists, func(x, y []int) int { return len(y) - len(x) })
		return lists
	case api.SeasonSettled:
		return [][]int{nil}
	}
	slices.SortFunc(lists, model.CompareLists)
	return lists
}

// modelAsk tries all proofs, in order.
func modelAsk(b api.SeasonBook, q api.SeasonAsk) (yes bool, proof []int, h api.Hitch) {
	if h := modelAskHitch(b, q); h != smooth {
		return false, nil, h
	}
	for _, l := range modelProofs(b, q.Kind) {
		if modelShows(b, q, l) {
			return true, l, smooth
		}
	}
	return false, nil, smooth
}
