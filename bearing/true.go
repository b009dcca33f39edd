package bearing

import "lagan/api"

// Bearings.
const (
	north = iota
	northEast
	east
	southEast
	south
	southWest
	west
	northWest
	bearings // how many there are
)

// words are the bearings as words.
var words = [bearings]string{"n", "ne", "e", "se", "s", "sw", "w", "nw"}

// bearingOf returns the bearing that a word stands for, and whether it stands for one.
func bearingOf(word string) (int, bool) {
	for i, w := range words {
		if w == word {
			return i, true
		}
	}
	return 0, false
}

// trueBearing returns the true bearing between two different places.
func trueBearing(from, to api.BearingSquare) int {
	eastward, northward := to.East-from.East, to.North-from.North
	wide, high := max(eastward, -eastward), max(northward, -northward)
	if 12*min(wide, high) > 5*max(wide, high) {
		return between(eastward > 0, northward > 0)
	}
	if high > wide {
		return either(northward > 0, north, south)
	}
	return either(eastward > 0, east, west)
}

// between returns the bearing between two directions.
func between(toEast, toNorth bool) int {
	if toNorth {
		return either(toEast, northEast, northWest)
	}
	return either(toEast, southEast, southWest)
}

func either(is bool, one, other int) int {
	if is {
		return one
	}
	return other
}

// shown returns what a compass shows that is off by so much.
func shown(bearing, off int) int {
	// An off below 0 would make the remainder negative.
	return (bearing + off + bearings) % bearings
}
