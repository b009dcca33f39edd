package finds

import (
	"lagan/api"
	"lagan/terms"
)

// thing asks of a case about the find with this index.
type thing int

func (i thing) line(x findsCase) int { return x.lines[i] }

func (i thing) isStray(x findsCase) bool { return x.lines[i] == stray }

// entry asks of a case about the line with this index, or about strays.
type entry int

func (i entry) many(x findsCase) int { return x.lines.many(int(i)) }

// vessel asks of a case about the ship with this number.
type vessel int

func (i vessel) many(x findsCase) int { return x.ships.many(int(i)) }

// claim asks of a case whether a find is of a ship.
type claim struct{ find, ship int }

func (k claim) isRight(x findsCase) bool { return x.ships[k.find] == k.ship }

// lost returns how many things of this ship did not come up in a case.
func (b book) lost(x findsCase) int {
	lost := -vessel(ownShip).many(x)
	for _, l := range b.Lines {
		if l.Ship == ownShip {
			lost += l.Count
		}
	}
	return lost
}

// span returns the reach of the numbers that are told of cases, or Adrift if there is no case.
func (c checked) span(tell func(findsCase) int) (api.Reach, api.Hitch) {
	numbers, h := terms.Told(c.cases(), tell)
	if h != api.Smooth {
		return api.Reach{}, h
	}
	return terms.Span(numbers)
}

// ours returns the finds that surely are of this ship, and the others that can be, or Adrift if there is no case.
func (c checked) ours() (sure, perhaps []int, h api.Hitch) {
	var known api.Known
finds:
	for find := range len(c.Finds) {
		known, h = terms.Known(c.cases(), claim{find: find, ship: ownShip}.isRight)
		switch {
		case h != api.Smooth:
			break finds // as it is with the first find, if it is so
		case known == api.Surely:
			sure = append(sure, find)
		case known == api.Unsure:
			perhaps = append(perhaps, find)
		}
	}
	return sure, perhaps, h
}

// cleaning is of a letter of a find that cannot be read, and how many cases are left then, at most.
type cleaning struct{ find, place, left int }

// left returns how many cases are left at most once the letter at a place of a find's mark can be read; a stray can have any letter there.
func (c checked) left(find, place int) int {
	byLetter := map[byte]int{}
	strays, most := 0, 0
	for x := range c.cases() {
		line := x.lines[find]
		if line == stray {
			strays++
			continue
		}
		letter := c.Lines[line].Mark[place]
		byLetter[letter]++
		most = max(most, byLetter[letter])
	}
	return most + strays
}

// cleanings returns those of a find, in the order of the letters.
func (c checked) cleanings(find int) []cleaning {
	var all []cleaning
	for place, letter := range c.Finds[find] {
		if letter == worn {
			all = append(all, cleaning{find: find, place: place, left: c.left(find, place)})
		}
	}
	return all
}

// ask returns what is to be cleaned, the place -1 of the find -1 if nothing leaves fewer cases, and how many are left then, at most.
func (c checked) ask() cleaning {
	// A goroutine for each find looks at its letters.
	all := terms.Gather(terms.Indexes(len(c.Finds)), c.cleanings)
	var lefts []int
	for _, x := range all {
		lefts = append(lefts, x.left)
	}
	i, left := terms.Ask(terms.Many(c.cases()), lefts)
	if i < 0 {
		return cleaning{find: -1, place: -1, left: left}
	}
	return all[i]
}
