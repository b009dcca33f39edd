package season

import (
	"lagan/api"
	"lagan/bearing"
	"lagan/bell"
	"lagan/finds"
	"lagan/hull"
	"lagan/stint"
	"lagan/tackle"
	"lagan/terms"
)

// question is a kind of questions.
type question struct {
	word   string
	check  func(a int) api.Hitch
	answer func(c court, a int) (proof []int, yes bool, h api.Hitch)
	shows  func(c court, a int, proof []int) bool // whether a proof shows a yes
}

// questions returns all kinds of questions, in order.
func questions() []question {
	return []question{
		api.SeasonFalse:   {word: "false", check: ofAny, answer: court.fewestFalse, shows: court.showsFalse},
		api.SeasonPlan:    {word: "plan", check: ofAny, answer: court.fewestCasks, shows: court.showsPlan},
		api.SeasonRota:    {word: "rota", check: ofNothing, answer: court.firstRota, shows: court.showsRota},
		api.SeasonOrder:   {word: "order", check: ofNothing, answer: court.firstOrder, shows: court.showsOrder},
		api.SeasonGears:   {word: "gears", check: ofAny, answer: court.fewestGears, shows: court.showsGears},
		api.SeasonOurs:    {word: "ours", check: ofAny, answer: court.ours, shows: court.showsOurs},
		api.SeasonSettled: {word: "settled", check: ofPart, answer: court.settled, shows: court.showsSettled},
	}
}

// questionWords returns the words of all kinds of questions, in order.
func questionWords() []string {
	var words []string
	for _, q := range questions() {
		words = append(words, q.word)
	}
	return words
}

func ofAny(int) api.Hitch { return api.Smooth }

func ofNothing(a int) api.Hitch { return terms.HitchUnless(a == 0, api.Shape) }

func ofPart(a int) api.Hitch { return terms.HitchUnless(terms.Within(a, 0, layerCount-1), api.Missing) }

// court answers questions about a book, and judges proofs.
type court struct {
	checked
	census census
}

// ask returns the proof if the answer to a question is yes, and whether it is.
func (c court) ask(q api.SeasonAsk) (proof []int, yes bool, h api.Hitch) {
	all := questions()
	if !terms.Within(int(q.Kind), 0, len(all)-1) {
		return nil, false, api.Bounds
	}
	if h := all[q.Kind].check(q.A); h != api.Smooth {
		return nil, false, h
	}
	proof, yes, h = all[q.Kind].answer(c, q.A)
	if h != api.Smooth || !yes {
		return nil, false, h
	}
	return proof, true, api.Smooth
}

// judge tells whether a proof shows that the answer to a question is yes.
func (c court) judge(q api.SeasonAsk, proof []int) (bool, api.Hitch) {
	if _, _, h := c.ask(q); h != api.Smooth {
		return false, h
	}
	return questions()[q.Kind].shows(c, q.A, proof), api.Smooth
}

func (c court) fewestFalse(many int) (witnesses []int, yes bool, h api.Hitch) {
	witnesses, h = bearing.Fewest(c.Chart)
	return witnesses, len(witnesses) <= many, h
}

func (c court) fewestCasks(many int) (plan []int, yes bool, h api.Hitch) {
	plan, found, h := bell.Fewest(c.Bell)
	return plan, found && len(plan) <= many, h
}

func (c court) firstRota(int) (proof []int, yes bool, h api.Hitch) {
	rota, found, h := stint.First(c.Stint)
	return join(endOfDive, rota...), found, h
}

func (c court) firstOrder(int) (order []int, yes bool, h api.Hitch) { return hull.First(c.Hull) }

func (c court) fewestGears(many int) (gears []int, yes bool, h api.Hitch) {
	gears, found, h := tackle.Fewest(c.Tackle)
	return gears, found && len(gears) <= many, h
}

func (c court) ours(many int) (things []int, yes bool, h api.Hitch) {
	things, _, h = finds.Ours(c.Finds)
	return things, len(things) >= many, h
}

func (c court) settled(part int) (proof []int, yes bool, h api.Hitch) {
	return nil, c.census.tally(c.checked).isSettled(part), api.Smooth
}
