package slack

import (
	"slices"

	"lagan/api"
	"lagan/terms"
)

// ticks are some of the ticks of a day, such as those at which it is slack.
type ticks [api.MaxSlackDay + 1]bool

func (t ticks) has(tick int) bool { return terms.Within(tick, 0, api.MaxSlackDay) && t[tick] }

// with returns the ticks together with those of a reach.
func (t ticks) with(r api.Reach) ticks { return t.set(r, true) }

// without returns the ticks but for those of a reach.
func (t ticks) without(r api.Reach) ticks { return t.set(r, false) }

func (t ticks) set(r api.Reach, is bool) ticks {
	for tick := r.Least; tick <= r.Most; tick++ {
		t[tick] = is
	}
	return t
}

// reaches returns the longest reaches of ticks, in order.
func (t ticks) reaches() []api.Reach {
	var all []api.Reach
	for t != (ticks{}) {
		r := t.firstReach()
		all = append(all, r)
		t = t.without(r)
	}
	return all
}

// firstReach returns the first one of the longest reaches of ticks, of which there is at least one.
func (t ticks) firstReach() api.Reach {
	least := slices.Index(t[:], true)
	most := least
	for t.has(most + 1) {
		most++
	}
	return api.Reach{Least: least, Most: most}
}

// turned returns the ticks of a day that is told from its end.
func (t ticks) turned() ticks {
	slices.Reverse(t[:])
	return t
}

// early returns when works begin that fit into the ticks, each as early as can be, as many of them as fit.
func (t ticks) early(works []int) []int {
	var starts []int
	free := 0 // how many ticks just before this one nothing is done in
day:
	for tick := range len(t) {
		switch {
		case len(starts) == len(works):
			break day
		case !t[tick]:
			free = 0
		case free+1 < works[len(starts)]:
			free++
		default:
			starts = append(starts, tick-free)
			free = 0
		}
	}
	return starts
}

// late returns when works begin that fit into the ticks, each as late as can be, as many of the last ones as fit.
func (t ticks) late(works []int) []int {
	// What is late in a day is early in the day that is told from its end.
	turned := slices.Clone(works)
	slices.Reverse(turned)
	starts := t.turned().early(turned)
	for i, start := range starts {
		starts[i] = api.MaxSlackDay - (start + turned[i] - 1)
	}
	slices.Reverse(starts)
	return starts
}
