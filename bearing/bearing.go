// Package bearing finds where a wreck can be, from the bearings of witnesses. It is specified in shared/doc/01-bearing.md.
package bearing

import (
	"lagan/api"
	"lagan/terms"
)

// CheckChart returns the hitch of a book, or Smooth.
func CheckChart(b api.BearingChart) api.Hitch {
	_, h := check(b)
	return h
}

// True returns the true bearing from a place to another one.
func True(from, to api.BearingSquare) (int, api.Hitch) {
	if !isPlace(from) || !isPlace(to) {
		return 0, api.Bounds
	}
	if from == to {
		return 0, api.Missing
	}
	return trueBearing(from, to), api.Smooth
}

// IsCase tells whether this is a case of the book.
func IsCase(b api.BearingChart, c api.BearingCase) (bool, api.Hitch) {
	k, h := check(b)
	if h != api.Smooth {
		return false, h
	}
	if h := k.checkCase(c); h != api.Smooth {
		return false, h
	}
	return k.isCase(newCase(c)), api.Smooth
}

// Cases returns how many cases there are.
func Cases(b api.BearingChart) (int, api.Hitch) {
	c, h := check(b)
	if h != api.Smooth {
		return 0, h
	}
	return terms.Many(c.cases()), api.Smooth
}

// Where returns the squares at which the wreck can be, in order.
func Where(b api.BearingChart) ([]api.BearingSquare, api.Hitch) {
	c, h := check(b)
	if h != api.Smooth {
		return nil, h
	}
	squares := c.where()
	if len(squares) == 0 {
		return nil, api.Adrift
	}
	return squares, api.Smooth
}

// Box returns how far east, and how far north, the wreck can be.
func Box(b api.BearingChart) (east, north api.Reach, h api.Hitch) {
	squares, h := Where(b)
	if h != api.Smooth {
		return api.Reach{}, api.Reach{}, h
	}
	east, north = box(squares)
	return east, north, api.Smooth
}

// At tells whether the wreck is at a square.
func At(b api.BearingChart, s api.BearingSquare) (api.Known, api.Hitch) {
	c, h := check(b)
	if h != api.Smooth {
		return api.Unsure, h
	}
	if !c.hasSquare(s) {
		return api.Unsure, api.Missing
	}
	return terms.Known(c.cases(), place(s).hasWreck)
}

// Off returns by how much a compass can be off, ascending.
func Off(b api.BearingChart, compass int) ([]int, api.Hitch) {
	c, h := check(b)
	if h != api.Smooth {
		return nil, h
	}
	if !c.hasCompass(compass) {
		return nil, api.Missing
	}
	return terms.Told(c.cases(), needle(compass).off)
}

// False tells whether a witness is false.
func False(b api.BearingChart, witness int) (api.Known, api.Hitch) {
	c, h := check(b)
	if h != api.Smooth {
		return api.Unsure, h
	}
	if !c.hasWitness(witness) {
		return api.Unsure, api.Missing
	}
	return terms.Known(c.cases(), suspect(witness).isFalse)
}

// Sound tells whether all witnesses can be right together.
func Sound(b api.BearingChart) (bool, api.Hitch) {
	c, h := check(b)
	if h != api.Smooth {
		return false, h
	}
	return c.together(c.everybody()), api.Smooth
}

// Fewest returns the fewest witnesses without whom all others can be right together.
func Fewest(b api.BearingChart) ([]int, api.Hitch) {
	c, h := check(b)
	if h != api.Smooth {
		return nil, h
	}
	return c.spared(), api.Smooth
}

// Clash returns the fewest witnesses who cannot be right together, or none if all can.
func Clash(b api.BearingChart) ([]int, api.Hitch) {
	c, h := check(b)
	if h != api.Smooth {
		return nil, h
	}
	return c.clash(), api.Smooth
}

// Ask returns the witness of whom it is to be found out whether they are false, and how many cases are left then, at most.
func Ask(b api.BearingChart) (witness, left int, h api.Hitch) {
	c, h := check(b)
	if h != api.Smooth {
		return 0, 0, h
	}
	cases := terms.Many(c.cases())
	if cases == 0 {
		return 0, 0, api.Adrift
	}
	witness, left = c.ask(cases)
	return witness, left, api.Smooth
}

// Hear returns the book with one more witness.
func Hear(b api.BearingChart, w api.BearingWitness) (api.BearingChart, api.Hitch) {
	c, h := check(b)
	if h != api.Smooth {
		return api.BearingChart{}, h
	}
	heard := c.clone()
	heard.Witnesses = append(heard.Witnesses, w)
	return heard.told()
}

// Trust returns the book in which a witness surely is not false.
func Trust(b api.BearingChart, witness int) (api.BearingChart, api.Hitch) {
	c, h := check(b)
	if h != api.Smooth {
		return api.BearingChart{}, h
	}
	if !c.hasWitness(witness) {
		return api.BearingChart{}, api.Missing
	}
	if c.Witnesses[witness].Sure {
		return api.BearingChart{}, api.Double
	}
	trusted := c.clone()
	trusted.Witnesses[witness].Sure = true
	return trusted.told()
}

// Swing returns the book in which a compass is off by what its reach has in common with x.
func Swing(b api.BearingChart, compass int, x api.Reach) (api.BearingChart, api.Hitch) {
	c, h := check(b)
	if h != api.Smooth {
		return api.BearingChart{}, h
	}
	if !c.hasCompass(compass) {
		return api.BearingChart{}, api.Missing
	}
	if !isOff(x) {
		return api.BearingChart{}, api.Bounds
	}
	common, ok := terms.Common(c.Compasses[compass], x)
	if !ok {
		return api.BearingChart{}, api.Adrift
	}
	swung := c.clone()
	swung.Compasses[compass] = common
	return swung.told()
}

// Print writes a book.
func Print(b api.BearingChart) (string, api.Hitch) {
	c, h := check(b)
	if h != api.Smooth {
		return "", h
	}
	return c.print(), api.Smooth
}

// Parse reads a book; line is the first line that is wrong, if one is.
func Parse(text string) (b api.BearingChart, line int, h api.Hitch) {
	return terms.Read(text, readChart, CheckChart)
}
