package stint

import (
	"slices"

	"lagan/api"
)

// row returns the index of the first row that goes down to a depth, or -1 if none does.
func (b book) row(depth int) int {
	return slices.IndexFunc(b.Rows, func(r api.StintRow) bool { return r.Depth >= depth })
}

// stay returns the stay at a depth.
func (b book) stay(depth int) int {
	i := b.row(depth)
	if i < 0 {
		return 0
	}
	return b.Rows[i].Stay
}

// hurt returns the rows once a man was hurt at a depth to which one of them goes down.
func (b book) hurt(depth, stay int) []api.StintRow {
	rows := slices.Clone(b.Rows)
	first := b.row(depth)
	if rows[first].Depth > depth {
		rows = slices.Insert(rows, first, api.StintRow{Depth: depth, Stay: stay})
	}
	for i := first; i < len(rows); i++ {
		rows[i].Stay = min(rows[i].Stay, stay)
	}
	return rows
}

// areApart tells whether a man can do both of two dives.
func (b book) areApart(one, two int) bool {
	return b.begins(one) >= b.rested(two) || b.begins(two) >= b.rested(one)
}

func (b book) begins(dive int) int { return b.Dives[dive].Begin }

// rested returns the first tick at which those who did a dive may begin another one.
func (b book) rested(dive int) int { return b.Dives[dive].Begin + b.Dives[dive].Ticks + b.Rest }
