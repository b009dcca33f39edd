package bell

import (
	"maps"
	"slices"

	"lagan/api"
	"lagan/terms"
)

// atmosphere is how many feet of water weigh as much as the air above them.
const atmosphere = 33

// descent is a bell that goes down: how deep, in which minutes a cask is emptied into her, and who is in her.
type descent struct {
	checked
	depth     int
	plan, men []int
}

// play is how many measures there are at the end of each minute; 0 of minutes that the book does not have.
type play [api.MaxBellMinutes]int

// dry returns how many divisions deep a bell is dry at a depth.
func dry(depth, air int) int { return air * atmosphere / (atmosphere + depth) }

// holds returns how many measures the bell holds at a depth, at most.
func (b book) holds(depth int) int { return b.Room * (atmosphere + depth) / atmosphere }

// descent returns the bell of the book with all men, by a plan.
func (c checked) descent(plan []int) descent {
	return descent{checked: c, depth: c.Depth, plan: plan, men: terms.Indexes(len(c.Men))}
}

// play returns how many measures there are if the men who are down, and the leak, use those of a case.
func (d descent) play(m measures) play {
	var all play
	used := d.Lamps + m.ofMen(d.men).together()
	air := d.Room
	for i := range d.Minutes {
		full := min(air+d.brought(i+1), d.holds(d.depth))
		air = max(0, full-used)
		all[i] = air
	}
	return all
}

// brought returns how many measures come in in a minute.
func (d descent) brought(minute int) int {
	air := 0
	if slices.Contains(d.plan, minute) {
		air += d.Cask
	}
	if terms.Has(d.Pumped, minute) {
		air += d.Pump
	}
	return air
}

// plays returns the plays of all cases, each by what is used in it: cases that differ in men alone who are not down have the same one.
func (d descent) plays() map[measures]play {
	looked := map[measures]play{}
	for x := range d.cases() {
		used := x.ofMen(d.men)
		if _, ok := looked[used]; !ok {
			looked[used] = d.play(used)
		}
	}
	return looked
}

// at returns how many measures there can be at the end of a minute, at least and at most, or Adrift if there is no case.
func (d descent) at(minute int) (api.Reach, api.Hitch) {
	var air []int
	for _, p := range d.plays() {
		air = append(air, p[minute-1])
	}
	return terms.Span(air)
}

// isGood tells whether the air is good in each minute.
func (d descent) isGood(p play) bool {
	for _, air := range p[:d.Minutes] {
		if !d.isEnough(air) {
			return false
		}
	}
	return true
}

func (d descent) isEnough(air int) bool { return dry(d.depth, air) >= d.Least }

// known tells how well it is known that the air is good in each minute, or Adrift if there is no case.
func (d descent) known() (api.Known, api.Hitch) {
	return terms.Known(maps.Values(d.plays()), d.isGood)
}

// firstBad returns the first minute in which the air is not good in some case, or 0 if there is none.
func (d descent) firstBad() int {
	plays := d.plays()
	bad := 0
minutes:
	for i := range d.Minutes {
		for _, p := range plays {
			if !d.isEnough(p[i]) {
				bad = i + 1
				break minutes
			}
		}
	}
	return bad
}
