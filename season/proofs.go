package season

import (
	"slices"

	"lagan/api"
	"lagan/bearing"
	"lagan/bell"
	"lagan/finds"
	"lagan/hull"
	"lagan/stint"
	"lagan/tackle"
	"lagan/terms"
)

const (
	endOfDive = -1 // stands behind the men of a dive
	ownShip   = 0
)

// join returns several lists as one, with an end behind each of them.
func join[T any](end T, lists ...[]T) []T {
	var all []T
	for _, l := range lists {
		all = append(append(all, l...), end)
	}
	return all
}

// split returns the lists that were joined, or none if there is not an end behind each of them.
func split[T comparable](end T, all []T) [][]T {
	var lists [][]T
	for len(all) > 0 {
		i := slices.Index(all, end)
		if i < 0 {
			return nil
		}
		lists, all = append(lists, all[:i]), all[i+1:]
	}
	return lists
}

// isSure tells whether what is told of all cases of a book surely is so.
func isSure(known api.Known, h api.Hitch) bool { return h == api.Smooth && known == api.Surely }

// areIndexes tells whether a list has indexes below many, ascending.
func areIndexes(list []int, many int) bool { return terms.CheckIndexes(list, many) == api.Smooth }

func (c court) showsFalse(many int, proof []int) bool {
	if len(proof) > many || !areIndexes(proof, len(c.Chart.Witnesses)) {
		return false
	}
	others := c.Chart
	others.Witnesses = nil
	for i, w := range c.Chart.Witnesses {
		if !slices.Contains(proof, i) {
			others.Witnesses = append(others.Witnesses, w)
		}
	}
	sound, h := bearing.Sound(others)
	return sound && h == api.Smooth
}

func (c court) showsPlan(many int, proof []int) bool {
	return len(proof) <= many && c.goesOn(proof) && isSure(bell.Good(c.Bell, proof))
}

// goesOn tells whether a plan, if it has no hitch, has all that was sent, and otherwise minutes alone that are behind that, and behind all marks.
func (c checked) goesOn(plan []int) bool {
	sent := len(c.Bell.Sent)
	if len(plan) < sent || !slices.Equal(plan[:sent], c.Bell.Sent) {
		return false
	}
	for _, m := range c.Bell.Marks {
		isPast := func(minute int) bool { return minute <= m.Minute }
		if slices.ContainsFunc(plan[sent:], isPast) {
			return false
		}
	}
	return true
}

func (c court) showsRota(_ int, proof []int) bool {
	return isSure(stint.Good(c.Stint, split(endOfDive, proof))) // no lists are no rota, as there is a dive
}

func (c court) showsOrder(_ int, proof []int) bool { return isSure(hull.Safe(c.Hull, proof)) }

func (c court) showsGears(many int, proof []int) bool {
	if len(proof) > many || !areIndexes(proof, len(c.Tackle.Gears)) {
		return false
	}
	for piece := range c.Tackle.Pieces {
		lifts := func(gear int) bool { return isSure(tackle.May(c.Tackle, gear, piece)) }
		if !slices.ContainsFunc(proof, lifts) {
			return false
		}
	}
	return true
}

func (c court) showsOurs(many int, proof []int) bool {
	if len(proof) < many || !areIndexes(proof, len(c.Finds.Finds)) {
		return false
	}
	isOther := func(find int) bool { return !isSure(finds.Of(c.Finds, find, ownShip)) }
	return !slices.ContainsFunc(proof, isOther)
}

func (c court) showsSettled(part int, proof []int) bool {
	_, is, _ := c.settled(part)
	return is && len(proof) == 0
}
