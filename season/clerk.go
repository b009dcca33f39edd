package season

import (
	"strings"

	"lagan/api"
	"lagan/terms"
)

const (
	askWord    = "ask"
	judgeWord  = "judge"
	shareWord  = "share"
	doneWord   = "done"
	yesWord    = "yes"
	noWord     = "no"
	rightWord  = "right"
	wrongWord  = "wrong"
	sharesWord = "shares"
	hitchWord  = "hitch"
)

// request is what a line asks a clerk for.
type request interface {
	answer(c *clerk) ([]string, api.Hitch)
}

type entryRequest struct{ entry api.SeasonEntry }

type askRequest struct{ question api.SeasonAsk }

type judgeRequest struct {
	question api.SeasonAsk
	proof    []int
}

type shareRequest struct{ value int }

// clerk works with a journal, and counts cases.
type clerk struct {
	journal
	census census
}

// court returns one that answers questions about the book as it is now.
func (c *clerk) court() court { return court{checked: c.checked, census: c.census} }

// work does what each line of a text asks for, and returns all that is written.
func (c *clerk) work(lines []string) string {
	var out strings.Builder
	write := func(fields ...string) { out.WriteString(terms.PrintLine(fields...)) }
	for _, line := range lines {
		answer, h := c.answer(line)
		if h != api.Smooth {
			answer = []string{hitchWord, terms.PrintNumber(int(h))}
		}
		write(answer...)
	}
	return out.String()
}

// answer returns the fields of the line that answers another one.
func (c *clerk) answer(line string) ([]string, api.Hitch) {
	r, h := terms.ReadLine(line, readRequest)
	if h != api.Smooth {
		return nil, h
	}
	return r.answer(c)
}

func (r entryRequest) answer(c *clerk) ([]string, api.Hitch) {
	if h := c.write(r.entry); h != api.Smooth {
		return nil, h
	}
	return []string{doneWord, terms.PrintNumber(len(c.stands()))}, api.Smooth
}

func (r askRequest) answer(c *clerk) ([]string, api.Hitch) {
	proof, yes, h := c.court().ask(r.question)
	if !yes {
		return []string{noWord}, h
	}
	return []string{yesWord, terms.PrintList(proof)}, h
}

func (r judgeRequest) answer(c *clerk) ([]string, api.Hitch) {
	shows, h := c.court().judge(r.question, r.proof)
	return []string{terms.PrintEither(shows, rightWord, wrongWord)}, h
}

func (r shareRequest) answer(c *clerk) ([]string, api.Hitch) {
	shares, h := c.award().shares(r.value)
	return []string{sharesWord, terms.PrintList(shares)}, h
}

// readRequest reads a line; it panics if that is wrong.
func readRequest(l terms.Line) request {
	words := []string{entryWord, askWord, judgeWord, shareWord}
	switch words[l.OneOf(l.Word(), words...)] {
	case entryWord:
		return entryRequest{entry: takeEntry(l)}
	case askWord:
		f := l.Fields(2)
		return askRequest{question: readQuestion(l, f[0], f[1])}
	case judgeWord:
		f := l.Fields(3)
		return judgeRequest{question: readQuestion(l, f[0], f[1]), proof: l.List(f[2])}
	}
	return shareRequest{value: l.Number(l.Fields(1)[0])}
}

// readQuestion reads the word and the number of a question; it panics if one of them is wrong.
func readQuestion(l terms.Line, word, number string) api.SeasonAsk {
	kind := l.OneOf(word, questionWords()...)
	return api.SeasonAsk{Kind: api.SeasonQuestion(kind), A: l.Number(number)}
}
