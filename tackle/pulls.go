package tackle

import "lagan/api"

// tenths are those of a pull. Sheaves share it among one rope more than they are; each of them adds a tenth.
const tenths = 10

// haul is a load on a gear.
type haul struct{ gear, load int }

// haulOf returns what a test tried.
func haulOf(t api.TackleTest) haul { return haul{gear: t.Gear, load: t.Load} }

// behind returns the pull behind a part with so many sheaves, by the pull on it.
func behind(pull, sheaves int) int {
	shared, among := pull*(tenths+sheaves), tenths*(1+sheaves)
	return (shared + among - 1) / among
}

// pulls returns the pull on each part of a gear, in its order, and then that on the winch.
func (b book) pulls(x haul) []int {
	pulls := []int{x.load}
	for place, part := range b.Gears[x.gear] {
		pulls = append(pulls, behind(pulls[place], b.Parts[part].Sheaves))
	}
	return pulls
}

// reckoner tells what gives, by pulls that it reckons once and keeps; no two goroutines share one.
type reckoner struct {
	book
	kept map[haul][]int
}

func (b book) reckoner() reckoner { return reckoner{book: b, kept: map[haul][]int{}} }

// pull returns the pull on what is at a place of a gear: a part, or behind the last one the winch.
func (r reckoner) pull(x haul, place int) int {
	pulls, ok := r.kept[x]
	if !ok {
		pulls = r.pulls(x)
		r.kept[x] = pulls
	}
	return pulls[place]
}

// places returns how many places of a gear can give.
func (b book) places(gear int) int { return len(b.Gears[gear]) + 1 }

// bears returns what pull is borne at a place of a gear.
func (b book) bears(w wear, gear, place int) int {
	parts := b.Gears[gear]
	if place == len(parts) {
		return b.Winch
	}
	return w[parts[place]]
}

func (r reckoner) gives(w wear, x haul, place int) bool {
	return r.pull(x, place) > r.bears(w, x.gear, place)
}

// lifts tells whether a gear lifts a load.
func (r reckoner) lifts(w wear, x haul) bool {
	for place := range r.places(x.gear) {
		if r.gives(w, x, place) {
			return false
		}
	}
	return true
}

// weak returns the places of a gear that give in some case, ascending.
func (c checked) weak(x haul) []int {
	r := c.reckoner()
	var weak []int
places:
	for place := range c.places(x.gear) {
		for w := range c.wears() {
			if r.gives(w, x, place) {
				weak = append(weak, place)
				continue places
			}
		}
	}
	return weak
}
