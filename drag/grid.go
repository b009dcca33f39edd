package drag

import (
	"cmp"
	"iter"

	"lagan/api"
	"lagan/terms"
)

// grid is some of the squares of a chart, such as those that a line swept.
type grid [api.MaxDragSide][api.MaxDragSide]bool

func gridOf(squares []api.DragSquare) grid {
	var g grid
	for _, s := range squares {
		g = g.with(s)
	}
	return g
}

func (g grid) has(s api.DragSquare) bool { return g[s.Row][s.Lane] }

func (g grid) with(s api.DragSquare) grid {
	g[s.Row][s.Lane] = true
	return g
}

func (g grid) without(others grid) grid {
	for row := range g {
		for lane := range g[row] {
			g[row][lane] = g[row][lane] && !others[row][lane]
		}
	}
	return g
}

// meets tells whether a square is on both grids.
func (g grid) meets(others grid) bool { return g.without(others) != g }

func inOrder(a, b api.DragSquare) int {
	return cmp.Or(cmp.Compare(a.Row, b.Row), cmp.Compare(a.Lane, b.Lane))
}

// squares yields the squares of the chart, in order.
func (b book) squares() iter.Seq[api.DragSquare] {
	return func(yield func(api.DragSquare) bool) {
	squares:
		for row := range b.Rows {
			for lane := range b.Lanes {
				if !yield(api.DragSquare{Row: row, Lane: lane}) {
					break squares
				}
			}
		}
	}
}

func (b book) hasSquare(s api.DragSquare) bool {
	return terms.Within(s.Row, 0, b.Rows-1) && terms.Within(s.Lane, 0, b.Lanes-1)
}

// list returns the squares of the chart that are on a grid, in order.
func (b book) list(g grid) []api.DragSquare {
	var squares []api.DragSquare
	for s := range b.squares() {
		if g.has(s) {
			squares = append(squares, s)
		}
	}
	return squares
}

// swept returns the squares that a line swept if the tide shifted it by so much.
func (b book) swept(l api.DragLine, shift int) grid {
	var g grid
	for s := range b.squares() {
		g[s.Row][s.Lane] = terms.Has(l.Rows, s.Row-shift) && terms.Has(l.Lanes, s.Lane)
	}
	return g
}
