package drag

import (
	"lagan/api"
	"lagan/terms"
)

// patch is a patch on the chart: its first square, and all of its squares.
type patch struct {
	at      api.DragSquare
	squares grid
}

// survey is what is needed for a plan: the squares with rocks, those on which the wreck can lie, and the patches on the chart.
type survey struct {
	rocky   grid
	where   []api.DragSquare
	patches []patch
}

// newSurvey makes a survey of a book, with patches of so many rows and lanes.
func newSurvey(b api.DragBook, rows, lanes int) (survey, api.Hitch) {
	c, h := check(b)
	if h != api.Smooth {
		return survey{}, h
	}
	if !terms.Within(rows, 1, c.Rows) || !terms.Within(lanes, 1, c.Lanes) {
		return survey{}, api.Bounds
	}
	where := c.where()
	if len(where) == 0 {
		return survey{}, api.Adrift
	}
	return survey{rocky: c.rocky, where: where, patches: c.patches(rows, lanes)}, api.Smooth
}

// patches returns the patches on the chart of so many rows and lanes, in order.
func (c checked) patches(rows, lanes int) []patch {
	var all []patch
	for s := range c.squares() {
		last := api.DragSquare{Row: s.Row + rows - 1, Lane: s.Lane + lanes - 1}
		if c.hasSquare(last) {
			// A patch is what a line over its rows and lanes sweeps without a tide.
			over := api.DragLine{Rows: api.Reach{Least: s.Row, Most: last.Row}, Lanes: api.Reach{Least: s.Lane, Most: last.Lane}}
			all = append(all, patch{at: s, squares: c.swept(over, 0)})
		}
	}
	return all
}

// fewest returns the fewest patches that have all squares on which the wreck can lie among them, and whether there are any.
func (v survey) fewest() ([]api.DragSquare, bool) {
	squares := gridOf(v.where)
	for many := 1; many <= api.MaxDragPlan; many++ {
		if at, ok := cover(v.patches, squares, many); ok {
			return at, true
		}
	}
	return nil, false
}

// cover returns the least list of so many patches that have all of some squares among them, and whether there is one, if no fewer have them.
func cover(patches []patch, squares grid, many int) ([]api.DragSquare, bool) {
	if squares == (grid{}) {
		return nil, true
	}
	if many == 0 {
		return nil, false
	}
	for i, p := range patches {
		if rest, ok := cover(patches[i+1:], squares.without(p.squares), many-1); ok {
			return append([]api.DragSquare{p.at}, rest...), true
		}
	}
	return nil, false
}

// next returns the patch without a rock that tells most, how many squares are left then, at most, and whether one tells something.
func (v survey) next() (at api.DragSquare, left int, found bool) {
	var lefts []int
	for _, p := range v.patches {
		lefts = append(lefts, v.leftBy(p))
	}
	i, left := terms.Ask(len(v.where), lefts)
	if i < 0 {
		return api.DragSquare{}, left, false
	}
	return v.patches[i].at, left, true
}

// leftBy returns how many squares are left, at most, once a line was dragged over a patch: all of them if a rock is in it.
func (v survey) leftBy(p patch) int {
	if p.squares.meets(v.rocky) {
		return len(v.where)
	}
	in := v.wrecksIn(p)
	return max(in, len(v.where)-in)
}

// wrecksIn returns on how many squares of a patch the wreck can lie.
func (v survey) wrecksIn(p patch) int {
	many := 0
	for _, s := range v.where {
		if p.squares.has(s) {
			many++
		}
	}
	return many
}
