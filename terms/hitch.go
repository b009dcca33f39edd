package terms

import (
	"slices"

	"lagan/api"
)

// HitchUnless returns the hitch, or Smooth if all is well.
func HitchUnless(well bool, h api.Hitch) api.Hitch {
	if well {
		return api.Smooth
	}
	return h
}

// CheckIndexes returns the hitch of a list that is to have indexes below many, ascending.
func CheckIndexes(list []int, many int) api.Hitch { return CheckAscending(list, 0, many-1) }

// CheckAscending returns the hitch of a list that is to have numbers from least to most, ascending.
func CheckAscending(list []int, least, most int) api.Hitch {
	for i, n := range list {
		if !Within(n, least, most) {
			return api.Missing
		}
		if i > 0 && n <= list[i-1] {
			return api.Crossed
		}
	}
	return api.Smooth
}

// CheckEach returns the hitch of numbers each of which is to be from least to most.
func CheckEach(numbers []int, least, most int) api.Hitch {
	isOut := func(n int) bool { return !Within(n, least, most) }
	return HitchUnless(!slices.ContainsFunc(numbers, isOut), api.Bounds)
}

// CheckName returns the hitch of the name of the thing with an index, which is to be a label that no thing before it has.
func CheckName[T any](things []T, i int, name func(T) string) api.Hitch {
	own := name(things[i])
	if !IsLabel(own) {
		return api.Label
	}
	hasIt := func(before T) bool { return name(before) == own }
	return HitchUnless(!slices.ContainsFunc(things[:i], hasIt), api.Double)
}

// Part is what a book has once, or several times, as far as it can have a hitch.
type Part[B any] struct {
	Check       func(B) api.Hitch // of what it has once; the other fields are of what it has several times
	Count       func(B) int
	Least, Most int // how many there can be
	Each        func(b B, i int) api.Hitch
}

// CheckParts returns the hitch of the first part of a book that has one.
func CheckParts[B any](b B, parts ...Part[B]) api.Hitch {
	for _, p := range parts {
		if h := p.hitch(b); h != api.Smooth {
			return h
		}
	}
	return api.Smooth
}

func (p Part[B]) hitch(b B) api.Hitch {
	if p.Check != nil {
		return p.Check(b)
	}
	many := p.Count(b)
	if !Within(many, p.Least, p.Most) {
		return api.Number
	}
	for i := range many {
		if h := p.Each(b, i); h != api.Smooth {
			return h
		}
	}
	return api.Smooth
}
