package mooring

import (
	"lagan/api"
	"lagan/terms"
)

// scope is how many times the depth a cable is long, at least, by which an anchor holds all that the ground does.
const scope = 3

// kinds is how many kinds of ground there are.
const kinds = int(api.MooringRock) + 1

// side is one from which a wind comes: its word, and how far a foot to the east, and one to the north, is to windward of it.
type side struct {
	word        string
	east, north int
}

// sides are all of them, in the order of their numbers.
var sides = [...]side{
	{word: "n", north: 1},
	{word: "ne", east: 1, north: 1},
	{word: "e", east: 1},
	{word: "se", east: 1, north: -1},
	{word: "s", north: -1},
	{word: "sw", east: -1, north: -1},
	{word: "w", east: -1},
	{word: "nw", east: -1, north: 1},
}

func hasSide(i int) bool { return terms.Within(i, 0, len(sides)-1) }

// windward returns how far an anchor lies to windward of a side.
func (b book) windward(anchor, side int) int {
	at, s := b.Anchors[anchor].At, sides[side]
	return s.east*at.East + s.north*at.North
}

func (b book) bears(anchor, side int) bool { return b.windward(anchor, side) > 0 }

// open returns the sides for which no anchor bears, ascending.
func (b book) open() []int {
	var open []int
sides:
	for side := range len(sides) {
		for anchor := range len(b.Anchors) {
			if b.bears(anchor, side) {
				continue sides
			}
		}
		open = append(open, side)
	}
	return open
}

// gust is a wind, by its index, that is so strong.
type gust struct{ wind, strength int }

// pulls are those on the anchors of a book, in their order; 0 on anchors that do not bear, or that it does not have.
type pulls [api.MaxMooringAnchors]int

// pullsIn returns the pulls in a gust.
func (b book) pullsIn(g gust) pulls {
	var far pulls
	together := 0
	for anchor := range len(b.Anchors) {
		far[anchor] = max(0, b.windward(anchor, b.Winds[g.wind].Side))
		together += far[anchor]
	}
	var p pulls
	for anchor, feet := range far {
		if feet > 0 {
			p[anchor] = (g.strength*feet + together - 1) / together
		}
	}
	return p
}

// holds are what the anchors of a book hold, in their order.
type holds [api.MaxMooringAnchors]int

// hold returns what an anchor holds in a case.
func (b book) hold(x mooringCase, anchor int) int {
	a := b.Anchors[anchor]
	held := x.grounds[a.Ground]
	if a.Length < scope*b.Depth {
		held /= 2
	}
	return min(held, a.Strength)
}

// holdsIn returns what the anchors hold in a case.
func (b book) holdsIn(x mooringCase) holds {
	var h holds
	for anchor := range len(b.Anchors) {
		h[anchor] = b.hold(x, anchor)
	}
	return h
}

// spare is what an anchor that bears holds less the pull on it.
type spare struct{ anchor, strength int }

// spares returns those of all anchors that bear in a gust, by what the anchors hold.
func (b book) spares(g gust, h holds) []spare {
	var all []spare
	for anchor, pull := range b.pullsIn(g) {
		if pull > 0 { // as it is on each anchor that bears, however weak the wind is
			all = append(all, spare{anchor: anchor, strength: h[anchor] - pull})
		}
	}
	return all
}

// ridesOut tells whether she rides in a gust, by what the anchors hold.
func (b book) ridesOut(g gust, h holds) bool {
	p := b.pullsIn(g)
	for anchor, pull := range p {
		if pull > h[anchor] {
			return false
		}
	}
	return p != pulls{}
}
