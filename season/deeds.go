package season

import (
	"slices"

	"lagan/api"
	"lagan/bearing"
	"lagan/bell"
	"lagan/drag"
	"lagan/finds"
	"lagan/hull"
	"lagan/mooring"
	"lagan/slack"
	"lagan/stint"
	"lagan/tackle"
	"lagan/terms"
)

// done returns the book in which an entry is done that has no hitch by itself, or the hitch with which it is refused.
func (c checked) done(e api.SeasonEntry) (checked, api.Hitch) {
	k, _ := kindOf(e)
	if h := k.do(&c, e); h != api.Smooth {
		return checked{}, h
	}
	return c, api.Smooth
}

// doneAll returns the book in which entries are done, in order, or the first hitch with which one of them is refused.
func (c checked) doneAll(entries []api.SeasonEntry) (checked, api.Hitch) {
	for _, e := range entries {
		done, h := c.done(e)
		if h != api.Smooth {
			return checked{}, h
		}
		c = done
	}
	return c, api.Smooth
}

// refuses tells whether an entry is refused with a hitch once others are done, none of which is refused itself.
func (c checked) refuses(e api.SeasonEntry, h api.Hitch, others []api.SeasonEntry) bool {
	behind, refused := c.doneAll(others)
	if refused != api.Smooth {
		return false
	}
	_, refused = behind.done(e)
	return refused == h
}

// strikeAlone refuses a strike, as there is nothing to strike without a journal.
func strikeAlone(*checked, api.SeasonEntry) api.Hitch { return api.Crossed }

func (c *checked) trust(e api.SeasonEntry) (h api.Hitch) {
	c.Chart, h = bearing.Trust(c.Chart, e.A)
	return h
}

func (c *checked) swing(e api.SeasonEntry) (h api.Hitch) {
	c.Chart, h = bearing.Swing(c.Chart, e.A, e.M)
	return h
}

func (c *checked) sound(e api.SeasonEntry) (h api.Hitch) {
	lead := api.DragLead{At: api.DragSquare{Row: e.A, Lane: e.B}, Brought: api.DragKind(e.C)}
	c.Drag, h = drag.Sound(c.Drag, lead)
	return h
}

func (c *checked) steady(e api.SeasonEntry) (h api.Hitch) {
	c.Drag, h = drag.Steady(c.Drag, e.A, e.M)
	return h
}

func (c *checked) watch(e api.SeasonEntry) (h api.Hitch) {
	c.Slack, h = slack.Watch(c.Slack, api.SlackWatch{At: e.A, Slack: e.C == isSo})
	return h
}

func (c *checked) blow(e api.SeasonEntry) (h api.Hitch) {
	c.Slack, h = slack.Blow(c.Slack, e.M)
	return h
}

func (c *checked) mark(e api.SeasonEntry) (h api.Hitch) {
	c.Bell, h = bell.Mark(c.Bell, api.BellMark{Minute: e.A, Dry: e.M})
	return h
}

func (c *checked) send(e api.SeasonEntry) (h api.Hitch) {
	c.Bell, h = bell.Send(c.Bell, e.A)
	return h
}

func (c *checked) line(e api.SeasonEntry) (h api.Hitch) {
	c.Stint, h = stint.Sound(c.Stint, api.StintSounding{Place: e.A, Line: e.B, Bottom: e.C == isSo})
	return h
}

func (c *checked) hurt(e api.SeasonEntry) (h api.Hitch) {
	c.Stint, h = stint.Accident(c.Stint, e.A, e.B)
	return h
}

func (c *checked) heel(e api.SeasonEntry) (h api.Hitch) {
	c.Hull, h = hull.Heel(c.Hull, api.HullHeel{After: e.A, Side: api.HullSide(e.C)})
	return h
}

func (c *checked) lift(e api.SeasonEntry) (h api.Hitch) {
	c.Hull, h = hull.Lift(c.Hull, e.A)
	return h
}

func (c *checked) try(e api.SeasonEntry) (h api.Hitch) {
	c.Tackle, h = tackle.Try(c.Tackle, api.TackleTest{Gear: e.A, Load: e.B, Held: e.C == isSo})
	return h
}

func (c *checked) night(e api.SeasonEntry) (h api.Hitch) {
	c.Mooring, h = mooring.Night(c.Mooring, api.MooringNight{Wind: e.A, Rode: e.C == isSo})
	return h
}

func (c *checked) clean(e api.SeasonEntry) (h api.Hitch) {
	c.Finds, h = finds.Clean(c.Finds, e.A, e.B, e.S)
	return h
}

func (c *checked) note(e api.SeasonEntry) (h api.Hitch) {
	c.Finds, h = finds.Note(c.Finds, api.FindsNote{A: e.A, B: e.B, Same: e.C == isSo})
	return h
}

func (c *checked) value(e api.SeasonEntry) api.Hitch {
	if !terms.IsReach(e.M, 0, api.MaxSeasonValue) {
		return api.Bounds
	}
	common, ok := terms.Common(c.Award.Value, e.M)
	c.Award.Value = common
	return terms.HitchUnless(ok, api.Adrift)
}

func (c *checked) sign(e api.SeasonEntry) api.Hitch {
	c.Award.Men = append(slices.Clone(c.Award.Men), api.SeasonMan{Name: e.S, Shares: e.A})
	return checkAward(c.Award)
}
