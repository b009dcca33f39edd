package season

import (
	"strings"

	"lagan/api"
	"lagan/terms"
)

// kind is a kind of entries.
type kind struct {
	word   string
	uses   string // the names of the fields that it uses
	either bool   // C is 0 or 1
	do     func(*checked, api.SeasonEntry) api.Hitch
}

// kinds returns all kinds of entries, in order.
func kinds() []kind {
	return []kind{
		api.SeasonStrike: {word: "strike", uses: "A", do: strikeAlone},
		api.SeasonTrust:  {word: "trust", uses: "A", do: (*checked).trust},
		api.SeasonSwing:  {word: "swing", uses: "AM", do: (*checked).swing},
		api.SeasonSound:  {word: "sound", uses: "ABC", do: (*checked).sound},
		api.SeasonSteady: {word: "steady", uses: "AM", do: (*checked).steady},
		api.SeasonWatch:  {word: "watch", uses: "AC", either: true, do: (*checked).watch},
		api.SeasonBlow:   {word: "blow", uses: "M", do: (*checked).blow},
		api.SeasonMark:   {word: "mark", uses: "AM", do: (*checked).mark},
		api.SeasonSend:   {word: "send", uses: "A", do: (*checked).send},
		api.SeasonLine:   {word: "line", uses: "ABC", either: true, do: (*checked).line},
		api.SeasonHurt:   {word: "hurt", uses: "AB", do: (*checked).hurt},
		api.SeasonHeel:   {word: "heel", uses: "AC", do: (*checked).heel},
		api.SeasonLift:   {word: "lift", uses: "A", do: (*checked).lift},
		api.SeasonTry:    {word: "try", uses: "ABC", either: true, do: (*checked).try},
		api.SeasonNight:  {word: "night", uses: "AC", either: true, do: (*checked).night},
		api.SeasonClean:  {word: "clean", uses: "ABS", do: (*checked).clean},
		api.SeasonNote:   {word: "note", uses: "ABC", either: true, do: (*checked).note},
		api.SeasonValue:  {word: "value", uses: "M", do: (*checked).value},
		api.SeasonSign:   {word: "sign", uses: "AS", do: (*checked).sign},
	}
}

// kindOf returns the kind of an entry, and whether there is such a kind.
func kindOf(e api.SeasonEntry) (kind, bool) {
	all := kinds()
	if !terms.Within(int(e.Kind), 0, len(all)-1) {
		return kind{}, false
	}
	return all[e.Kind], true
}

// kindWords returns the words of all kinds of entries, in order.
func kindWords() []string {
	var words []string
	for _, k := range kinds() {
		words = append(words, k.word)
	}
	return words
}

// unused returns an entry in which the fields that its kind uses are empty.
func (k kind) unused(e api.SeasonEntry) api.SeasonEntry {
	for _, field := range k.uses {
		switch field {
		case 'A':
			e.A = 0
		case 'B':
			e.B = 0
		case 'C':
			e.C = 0
		case 'M':
			e.M = api.Reach{}
		case 'S':
			e.S = ""
		}
	}
	return e
}

// checkEntry returns the hitch of an entry by itself, or Smooth.
func checkEntry(e api.SeasonEntry) api.Hitch {
	k, ok := kindOf(e)
	if !ok || !terms.Within(e.Hand, 0, api.MaxSeasonHands-1) {
		return api.Bounds
	}
	if k.unused(e) != (api.SeasonEntry{Hand: e.Hand, Kind: e.Kind}) {
		return api.Shape
	}
	return terms.HitchUnless(!k.either || terms.Within(e.C, isNotSo, isSo), api.Bounds)
}

// What C says where it tells whether something is so.
const (
	isNotSo = iota
	isSo
)

// checkForm returns the hitch of an entry that is to be put in a line, or Smooth.
func checkForm(e api.SeasonEntry) api.Hitch {
	if _, ok := kindOf(e); !ok {
		return api.Bounds
	}
	numbers := []int{e.Hand, e.A, e.B, e.C, e.M.Least, e.M.Most}
	if h := terms.CheckEach(numbers, -maxNumber, maxNumber); h != api.Smooth {
		return h
	}
	return terms.HitchUnless(e.S != noString && !strings.ContainsAny(e.S, blank+lineFeed), api.Shape)
}

// putEntry writes the line of an entry.
func putEntry(e api.SeasonEntry) string {
	k, _ := kindOf(e)
	fields := []string{entryWord, terms.PrintNumber(e.Hand), k.word}
	for _, n := range []int{e.A, e.B, e.C} {
		fields = append(fields, terms.PrintNumber(n))
	}
	s := e.S
	if s == "" {
		s = noString
	}
	return terms.PrintFields(append(fields, terms.PrintReach(e.M), s)...)
}

// takeEntry reads the line of an entry; it panics if that is wrong.
func takeEntry(l terms.Line) api.SeasonEntry {
	l.OneOf(l.Word(), entryWord)
	f := l.Fields(7)
	e := api.SeasonEntry{Hand: l.Number(f[0]), Kind: api.SeasonKind(l.OneOf(f[1], kindWords()...)), M: l.Reach(f[5])}
	e.A, e.B, e.C = l.Number(f[2]), l.Number(f[3]), l.Number(f[4])
	if f[6] != noString {
		e.S = f[6]
	}
	return e
}
