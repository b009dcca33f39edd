package slack

import (
	"iter"

	"lagan/api"
	"lagan/terms"
)

// frame is by how much turns are shifted, and by how much the clock is wrong.
type frame struct{ shift, clock int }

// halfs are the Half of each turn; it is 0 for those that the book does not have.
type halfs [api.MaxSlackTurns]int

// tideCase is a case that can be compared, and the ticks at which it is slack in it.
type tideCase struct {
	frame
	halfs halfs
	slack ticks
}

// newCase returns what a case that has no hitch says, whether it is a case of the book or not.
func (c checked) newCase(f frame, h halfs) tideCase {
	x := tideCase{frame: f, halfs: h}
	for _, r := range c.windows(x) {
		x.slack = x.slack.with(r)
	}
	return x
}

// handedIn makes a case that has no hitch one that can be compared.
func (c checked) handedIn(x api.SlackCase) tideCase {
	return c.newCase(frame{shift: x.Shift, clock: x.Clock}, halfsOf(x.Halfs))
}

// halfsOf returns those of a list for each turn.
func halfsOf(list []int) halfs {
	var h halfs
	copy(h[:], list)
	return h
}

// reaches returns those of the Half of each turn.
func (c checked) reaches() []api.Reach {
	var all []api.Reach
	for _, t := range c.Turns {
		all = append(all, t.Half)
	}
	return all
}

// windows returns the reaches of ticks in which it is slack in a case, one for each turn, in order.
func (c checked) windows(x tideCase) []api.Reach {
	var all []api.Reach
	for i, t := range c.Turns {
		at := t.At + x.shift
		all = append(all, api.Reach{Least: at - x.halfs[i], Most: at + x.halfs[i]})
	}
	return all
}

// agrees tells whether all watches are right.
func (c checked) agrees(x tideCase) bool {
	for _, w := range c.Watches {
		if x.slack.has(w.At-x.clock) != w.Slack {
			return false
		}
	}
	return true
}

// frames returns all by which turns can be shifted, and the clock can be wrong, whatever the watches say.
func (c checked) frames() []frame {
	var all []frame
	for shift := c.Shift.Least; shift <= c.Shift.Most; shift++ {
		for clock := c.Clock.Least; clock <= c.Clock.Most; clock++ {
			all = append(all, frame{shift: shift, clock: clock})
		}
	}
	return all
}

// casesOf yields the cases that have a frame.
func (c checked) casesOf(f frame) iter.Seq[tideCase] {
	return func(yield func(tideCase) bool) {
		for list := range terms.Numberings(c.reaches()) {
			x := c.newCase(f, halfsOf(list))
			if c.agrees(x) && !yield(x) {
				return
			}
		}
	}
}

// cases yields each case of the book.
func (c checked) cases() iter.Seq[tideCase] {
	return func(yield func(tideCase) bool) {
		for _, f := range c.frames() {
			for x := range c.casesOf(f) {
				if !yield(x) {
					return
				}
			}
		}
	}
}

// hasCase tells whether there is a case.
func (c checked) hasCase() bool { return terms.HasCase(c.cases()) }

func (c checked) isCase(x tideCase) bool { return terms.IsOneOf(c.cases(), x) }

// ofEach returns what is told of each case, in order.
func ofEach[T any](c checked, tell func(tideCase) T) []T {
	return terms.Gather(c.frames(), func(f frame) []T {
		var told []T
		for x := range c.casesOf(f) {
			told = append(told, tell(x))
		}
		return told
	})
}

// byShift and byClock tell by how much turns are shifted in a case, and by how much the clock is wrong.
func byShift(x tideCase) int { return x.shift }

func byClock(x tideCase) int { return x.clock }

// turn asks of a case about the turn with this index.
type turn int

func (t turn) half(x tideCase) int { return x.halfs[t] }

// hour asks of a case about this tick.
type hour int

func (t hour) isSlack(x tideCase) bool { return x.slack.has(int(t)) }

// crew asks of a case about these works.
type crew []int

// fitting returns how many works fit into the windows.
func (w crew) fitting(x tideCase) int { return len(x.slack.early(w)) }
