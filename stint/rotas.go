package stint

import (
	"cmp"
	"iter"
	"maps"
	"slices"

	"lagan/api"
	"lagan/terms"
)

// crew are some of the men: which of them do a dive, or may do it.
type crew [api.MaxStintMen]bool

// crewOf returns the men of a list of indexes.
func crewOf(men []int) crew {
	var k crew
	for _, man := range men {
		k[man] = true
	}
	return k
}

// list returns the indexes of the men, ascending.
func (k crew) list() []int {
	var men []int
	for man, is := range k {
		if is {
			men = append(men, man)
		}
	}
	return men
}

// common returns the men who are in both.
func (k crew) common(other crew) crew {
	for man := range k {
		k[man] = k[man] && other[man]
	}
	return k
}

// hasAll tells whether all men of another crew are in this one.
func (k crew) hasAll(other crew) bool { return k.common(other) == other }

// meets tells whether a man is in both.
func (k crew) meets(other crew) bool { return k.common(other) != crew{} }

// rota has the crew of each dive; nobody of dives that the book does not have.
type rota [api.MaxStintDives]crew

// rotaOf returns the rota of a list for each dive that has no hitch.
func rotaOf(lists [][]int) rota {
	var x rota
	for dive, men := range lists {
		x[dive] = crewOf(men)
	}
	return x
}

// lists returns the list of each dive.
func (b book) lists(x rota) [][]int {
	var all [][]int
	for dive := range b.Dives {
		all = append(all, x[dive].list())
	}
	return all
}

// isRested tells whether, of the first so many dives, all those of each man are apart from each other.
func (b book) isRested(x rota, many int) bool {
	rested := true
dives:
	for late := range many {
		for early := range late {
			if x[early].meets(x[late]) && !b.areApart(early, late) {
				rested = false
				break dives
			}
		}
	}
	return rested
}

// busiest returns the greatest number of ticks that a man is down.
func (b book) busiest(x rota) int {
	ticks := map[int]int{}
	for dive, d := range b.Dives {
		for _, man := range x[dive].list() {
			ticks[man] += d.Ticks
		}
	}
	_, most := terms.Bounds(0, slices.Collect(maps.Values(ticks))...)
	return most
}

// rotas yields each rota of men who surely may do their dives, the least one first.
func (r roster) rotas() iter.Seq[rota] {
	crews := r.crews()
	return func(yield func(rota) bool) {
		var x rota
		var fill func(dive int) bool
		fill = func(dive int) bool {
			if dive == len(crews) {
				return yield(x)
			}
			for _, k := range crews[dive] {
				x[dive] = k
				if r.isRested(x, dive+1) && !fill(dive+1) {
					return false
				}
			}
			return true
		}
		fill(0)
	}
}

// crews returns for each dive the crews who surely may do it, as many men as it needs, the least list first.
func (r roster) crews() [][]crew {
	lists := terms.Lists(len(r.Men))
	slices.SortFunc(lists, terms.Fewest)
	var all [][]crew
	for dive, d := range r.Dives {
		var crews []crew
		for _, men := range lists {
			if k := crewOf(men); len(men) == d.Men && r.may[dive].hasAll(k) {
				crews = append(crews, k)
			}
		}
		all = append(all, crews)
	}
	return all
}

// fairest returns the least of the rotas in which he who is down longest is so for the fewest ticks, and whether there is a rota.
func (r roster) fairest() (rota, bool) {
	all := slices.Collect(r.rotas())
	if len(all) == 0 {
		return rota{}, false
	}
	return terms.Best(r.compareBusiest, all[0], all[1:]...), true
}

func (r roster) compareBusiest(a, b rota) int { return cmp.Compare(r.busiest(a), r.busiest(b)) }
