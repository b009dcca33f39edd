package season

import (
	"iter"

	"lagan/api"
	"lagan/terms"
)

// writing is an entry that was written in a journal.
type writing struct {
	api.SeasonEntry
	hitch  api.Hitch
	struck bool
}

func (w writing) stands() bool { return w.hitch == api.Smooth && !w.struck }

// journal is what hands have written so far; the book in it is what the entries that stand make of the first one.
type journal struct {
	checked
	first    checked
	writings []writing
}

// played returns the journal of entries.
func (c checked) played(entries []api.SeasonEntry) journal {
	j := journal{checked: c, first: c}
	for _, e := range entries {
		j.write(e)
	}
	return j
}

// write adds an entry, does it if it has no hitch, and returns that.
func (j *journal) write(e api.SeasonEntry) api.Hitch {
	now, h := j.behind(e)
	j.writings = append(j.writings, writing{SeasonEntry: e, hitch: h})
	if h != api.Smooth {
		return h
	}
	j.checked = now
	if e.Kind == api.SeasonStrike {
		j.writings[e.A-1].struck = true
	}
	return api.Smooth
}

// behind returns the book behind an entry that is the next one.
func (j journal) behind(e api.SeasonEntry) (checked, api.Hitch) {
	if h := checkEntry(e); h != api.Smooth {
		return checked{}, h
	}
	if e.Kind != api.SeasonStrike {
		return j.done(e)
	}
	if !j.hasDeed(e.A) {
		return checked{}, api.Missing
	}
	if j.writings[e.A-1].Hand != e.Hand {
		return checked{}, api.Crossed
	}
	return j.without(e.A)
}

// hasDeed tells whether an entry stands that is no strike.
func (j journal) hasDeed(number int) bool {
	if !terms.Within(number, 1, len(j.writings)) {
		return false
	}
	w := j.writings[number-1]
	return w.stands() && w.Kind != api.SeasonStrike
}

// standing yields the entries that stand, with their numbers.
func (j journal) standing() iter.Seq2[int, api.SeasonEntry] {
	return func(yield func(int, api.SeasonEntry) bool) {
		for i, w := range j.writings {
			if w.stands() && !yield(i+1, w.SeasonEntry) {
				return
			}
		}
	}
}

// deeds yields those of the entries that stand that are no strikes.
func (j journal) deeds() iter.Seq2[int, api.SeasonEntry] {
	return func(yield func(int, api.SeasonEntry) bool) {
		for number, e := range j.standing() {
			if e.Kind != api.SeasonStrike && !yield(number, e) {
				return
			}
		}
	}
}

// stands returns the numbers of the entries that stand, ascending.
func (j journal) stands() []int {
	var numbers []int
	for number := range j.standing() {
		numbers = append(numbers, number)
	}
	return numbers
}

// hitches returns those of all entries, in order.
func (j journal) hitches() []api.Hitch {
	var all []api.Hitch
	for _, w := range j.writings {
		all = append(all, w.hitch)
	}
	return all
}

// without returns what all deeds but one make of the first book, or the first hitch with which one of them is refused.
func (j journal) without(struck int) (checked, api.Hitch) {
	var others []api.SeasonEntry
	for number, e := range j.deeds() {
		if number != struck {
			others = append(others, e)
		}
	}
	return j.first.doneAll(others)
}

// why returns the fewest deeds with which alone an entry, as the next one, is refused as it is with all of them, and whether there are such deeds.
func (j journal) why(e api.SeasonEntry) (fewest []int, found bool) {
	if e.Kind == api.SeasonStrike || checkEntry(e) != api.Smooth {
		return nil, false
	}
	_, h := j.done(e)
	if h == api.Smooth {
		return nil, false
	}
	var numbers []int
	var deeds []api.SeasonEntry
	for number, d := range j.deeds() {
		numbers, deeds = append(numbers, number), append(deeds, d)
	}
	indexes, found := terms.FewestSuch(len(deeds), func(some []int) bool {
		return len(some) <= api.MaxSeasonWhy && j.first.refuses(e, h, terms.Pick(deeds, some))
	})
	return terms.Pick(numbers, indexes), found
}
