package bell

import (
	"cmp"
	"slices"

	"lagan/api"
	"lagan/terms"
)

// question asks for the best one of several descents by which the air surely is good in each minute.
type question struct {
	tried  func(descent) []descent // those that are tried, instead of one
	better func(a, b descent) int  // which of two is the better one
}

// asked is which question is asked.
type asked int

const (
	fewest asked = iota
	latest
	deepest
	crew
)

func questions() []question {
	return []question{
		fewest:  {tried: descent.goingOn, better: fewestCasks},
		latest:  {tried: descent.goingOn, better: latestCasks},
		deepest: {tried: descent.atDepths, better: deeper},
		crew:    {tried: descent.withCrews, better: moreMen},
	}
}

// best checks a book and a plan, and returns the best descent that a question asks for, and whether there is one.
func best(b api.BellBook, plan []int, q asked) (descent, bool, api.Hitch) {
	c, h := checkWithPlan(b, plan)
	if h != api.Smooth {
		return descent{}, false, h
	}
	if !c.hasCase() {
		return descent{}, false, api.Adrift
	}
	x := questions()[q]
	good := terms.Gather(x.tried(c.descent(plan)), descent.ifGood)
	if len(good) == 0 {
		return descent{}, false, api.Smooth
	}
	return terms.Best(x.better, good[0], good[1:]...), true, api.Smooth
}

// ifGood returns a descent, alone, if the air surely is good in each minute by it.
func (d descent) ifGood() []descent {
	if d.firstBad() > 0 {
		return nil
	}
	return []descent{d}
}

// past returns the last minute in which a cask was emptied, or of which there is a mark; 0 if there is none.
func (b book) past() int {
	_, last := terms.Bounds(0, b.Sent...)
	for _, m := range b.Marks {
		last = max(last, m.Minute)
	}
	return last
}

// goingOn returns the descent with each plan that goes on, in the place of its own.
func (d descent) goingOn() []descent {
	var all []descent
	next := d.past() + 1
	for _, later := range terms.Lists(d.Minutes - d.past()) {
		o := d
		o.plan = slices.Clone(d.Sent)
		for _, i := range later {
			o.plan = append(o.plan, next+i)
		}
		if len(o.plan) <= d.Casks {
			all = append(all, o)
		}
	}
	return all
}

// atDepths returns the descent to each depth, in the place of its own.
func (d descent) atDepths() []descent {
	var all []descent
	for depth := range api.MaxBellDepth + 1 {
		o := d
		o.depth = depth
		all = append(all, o)
	}
	return all
}

// withCrews returns the descent with all lists of men, in the place of its own.
func (d descent) withCrews() []descent {
	var all []descent
	for _, men := range terms.Lists(len(d.Men)) {
		o := d
		o.men = men
		all = append(all, o)
	}
	return all
}

func fewestCasks(a, b descent) int { return terms.Fewest(a.plan, b.plan) }

func latestCasks(a, b descent) int {
	return cmp.Or(cmp.Compare(len(a.plan), len(b.plan)), slices.Compare(b.plan, a.plan))
}

func deeper(a, b descent) int { return cmp.Compare(b.depth, a.depth) }

func moreMen(a, b descent) int {
	return cmp.Or(cmp.Compare(len(b.men), len(a.men)), slices.Compare(a.men, b.men))
}
