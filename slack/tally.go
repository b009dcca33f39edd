package slack

import (
	"lagan/api"
	"lagan/terms"
)

// tally is how many cases there are, and how often it is slack at a tick: in how many of them.
type tally struct {
	cases int
	slack map[int]int
}

// tally counts the ticks at which it is slack, the true ones or others that tell of them; Adrift if there is no case.
func (c checked) tally(tell func(tideCase) ticks) (tally, api.Hitch) {
	days := ofEach(c, tell)
	t := tally{cases: len(days), slack: map[int]int{}}
	for _, day := range days {
		for tick, is := range day {
			if is {
				t.slack[tick]++
			}
		}
	}
	return t, terms.HitchUnless(t.cases > 0, api.Adrift)
}

// tallyOf checks a book, and counts the ticks at which it is slack.
func tallyOf(b api.SlackBook, tell func(tideCase) ticks) (tally, api.Hitch) {
	c, h := check(b)
	if h != api.Smooth {
		return tally{}, h
	}
	return c.tally(tell)
}

// trueTicks returns the ticks at which it is slack.
func trueTicks(x tideCase) ticks { return x.slack }

// shownTicks returns the ticks that the clock shows when it is slack.
func shownTicks(x tideCase) ticks {
	var shown ticks
	for tick := range len(shown) {
		shown[tick] = x.slack.has(tick - x.clock)
	}
	return shown
}

// sure returns the ticks at which it is slack in each case.
func (t tally) sure() ticks {
	var sure ticks
	for tick, many := range t.slack {
		sure[tick] = many == t.cases
	}
	return sure
}

// perhaps returns the ticks at which it is slack in some case.
func (t tally) perhaps() ticks {
	var perhaps ticks
	for tick := range t.slack {
		perhaps[tick] = true
	}
	return perhaps
}

// ask returns the first tick at which it is to be watched, or -1 if none leaves fewer cases, and how many are left then, at most.
func (t tally) ask() (tick, left int) {
	var lefts []int
	for tick := range len(ticks{}) {
		lefts = append(lefts, max(t.slack[tick], t.cases-t.slack[tick]))
	}
	return terms.Ask(t.cases, lefts)
}
