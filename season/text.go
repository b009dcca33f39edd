package season

import (
	"lagan/api"
	"lagan/terms"
)

const (
	awardWord = "award"
	manWord   = "man"
	entryWord = "entry"
)

const (
	maxNumber = 999999999 // that a field can have
	lineFeed  = "\n"
	noString  = "-"
)

// printAward writes an award.
func printAward(a api.SeasonAward) (string, api.Hitch) {
	first := terms.PrintLine(awardWord, terms.PrintReach(a.Value), terms.PrintNumber(a.Crown), terms.PrintNumber(a.Owner))
	return first + terms.PrintEach(a.Men, printMan), api.Smooth
}

func printMan(m api.SeasonMan) string {
	return terms.PrintLine(manWord, m.Name, terms.PrintNumber(m.Shares))
}

// parseAward reads an award; line is the first line that is wrong, if one is.
func parseAward(text string) (a api.SeasonAward, line int, h api.Hitch) {
	return terms.Parse(text, readAward, checkAward)
}

// readAward reads an award, which may have a hitch; it panics where a line is wrong.
func readAward(text string) api.SeasonAward {
	var a api.SeasonAward
	terms.EachInOrder(text, func(l terms.Line) int {
		kind := l.OneOf(l.Word(), awardWord, manWord)
		switch kind {
		case 0:
			f := l.Fields(3)
			a.Value, a.Crown, a.Owner = l.Reach(f[0]), l.Number(f[1]), l.Number(f[2])
		case 1:
			f := l.Fields(2)
			a.Men = append(a.Men, api.SeasonMan{Name: f[0], Shares: l.Number(f[1])})
		}
		return kind
	})
	return a
}
