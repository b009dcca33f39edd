package drag

import (
	"cmp"
	"iter"
	"slices"

	"lagan/api"
	"lagan/terms"
)

// bottom is what a case says of all but the lines: where the wreck lies, and which squares are mud.
type bottom struct {
	wreck api.DragSquare
	mud   grid
}

// pull is what a case says of a line: by how much the tide shifted it, and whether it was slack.
type pull struct {
	shift int
	slack bool
}

// wreckCase is a case that can be compared; pulls of lines that the book does not have are zero values.
type wreckCase struct {
	bottom
	pulls [api.MaxDragLines]pull
}

// newCase makes a case that has no hitch one that can be compared.
func (c checked) newCase(x api.DragCase) wreckCase {
	n := wreckCase{bottom: bottom{wreck: x.Wreck, mud: c.ground(mudLetter)}}
	for _, i := range x.Mud {
		n.mud = n.mud.with(c.unknown[i])
	}
	for i, shift := range x.Shifts {
		n.pulls[i].shift = shift
	}
	for _, i := range x.Slack {
		n.pulls[i].slack = true
	}
	return n
}

// muds returns the grids of squares that can be mud.
func (c checked) muds() []grid {
	all := []grid{c.ground(mudLetter)}
	for _, s := range c.unknown {
		// What is appended is not gone through: each grid so far is joined by the same one with this square.
		for _, g := range all {
			all = append(all, g.with(s))
		}
	}
	return all
}

// bottoms yields each bottom that agrees with the rocks and the leads.
func (c checked) bottoms() iter.Seq[bottom] {
	return func(yield func(bottom) bool) {
		muds := c.muds()
		for s := range c.squares() {
			for _, g := range muds {
				b := bottom{wreck: s, mud: g}
				if c.agrees(b) && !yield(b) {
					return
				}
			}
		}
	}
}

// agrees tells whether a bottom agrees with the rocks and the leads.
func (c checked) agrees(b bottom) bool {
	if c.rocky.has(b.wreck) {
		return false
	}
	for _, l := range c.Leads {
		if b.brings(l.At) != l.Brought {
			return false
		}
	}
	return true
}

// brings returns what a lead brings up.
func (b bottom) brings(at api.DragSquare) api.DragKind {
	if at == b.wreck {
		return api.DragIron
	}
	if b.mud.has(at) {
		return api.DragMud
	}
	return api.DragSand
}

// pullsOn returns the pulls of a line that agree with what it touched on a bottom.
func (c checked) pullsOn(b bottom, l api.DragLine) []pull {
	var pulls []pull
	for shift := l.Tide.Least; shift <= l.Tide.Most; shift++ {
		swept := c.swept(l, shift)
		if l.Touched == (swept.has(b.wreck) || swept.meets(c.rocky)) {
			pulls = append(pulls, pull{shift: shift})
		}
		if !l.Touched && swept.meets(b.mud) {
			pulls = append(pulls, pull{shift: shift, slack: true})
		}
	}
	return pulls
}

// casesOn yields the cases that have a bottom.
func (c checked) casesOn(b bottom) iter.Seq[wreckCase] {
	return func(yield func(wreckCase) bool) {
		var pulls [api.MaxDragLines][]pull
		for i, l := range c.Lines {
			pulls[i] = c.pullsOn(b, l)
		}
		x := wreckCase{bottom: b}
		var fill func(line, slack int) bool
		fill = func(line, slack int) bool {
			if line == len(c.Lines) {
				return yield(x)
			}
			for _, p := range pulls[line] {
				left := slack
				if p.slack {
					left--
				}
				x.pulls[line] = p
				if left >= 0 && !fill(line+1, left) {
					return false
				}
			}
			return true
		}
		fill(0, c.Slack)
	}
}

// cases yields each case of the book.
func (c checked) cases() iter.Seq[wreckCase] {
	return func(yield func(wreckCase) bool) {
		for b := range c.bottoms() {
			for x := range c.casesOn(b) {
				if !yield(x) {
					return
				}
			}
		}
	}
}

// hasCase tells whether there is a case.
func (c checked) hasCase() bool { return terms.HasCase(c.cases()) }

func (c checked) isCase(x wreckCase) bool { return terms.IsOneOf(c.cases(), x) }

// square asks of a case what is so there.
type square api.DragSquare

func (s square) hasWreck(x wreckCase) bool { return x.wreck == api.DragSquare(s) }

func (s square) isMud(x wreckCase) bool { return x.mud.has(api.DragSquare(s)) }

// drawn asks of a case about the line with this index.
type drawn int

func (d drawn) wasSlack(x wreckCase) bool { return x.pulls[d].slack }

func (d drawn) shift(x wreckCase) int { return x.pulls[d].shift }

// where returns the squares on which the wreck can lie, in order.
func (c checked) where() []api.DragSquare {
	return terms.Found(c.cases(), func(x wreckCase) api.DragSquare { return x.wreck }, inOrder)
}

// shifts returns the numbers by which the tide shifted a line in cases, ascending.
func (c checked) shifts(line int) []int {
	return terms.Found(c.cases(), drawn(line).shift, cmp.Compare[int])
}

// unswept returns the squares that no line swept in any case, in order.
func (c checked) unswept() []api.DragSquare {
	free := gridOf(slices.Collect(c.squares()))
	for i, l := range c.Lines {
		for _, shift := range c.shifts(i) {
			free = free.without(c.swept(l, shift))
		}
	}
	return c.list(free)
}
