package season

import (
	"slices"
	"strconv"
	"strings"

	"lagan/api"
	"lagan/terms"
)

const (
	beginWord = "begin"
	endWord   = "end"
	blank     = " "
)

const (
	sumOfNothing = 1
	sumFactor    = 31
)

// sum returns the sum of a string.
func sum(s string) int {
	n := sumOfNothing
	for i := range len(s) {
		n = (sumFactor*n + int(s[i])) % api.SeasonModulus
	}
	return n
}

// file returns the file of a book, whose parts' files are made by goroutines.
func (c checked) file() string {
	all := c.parts()
	return strings.Join(terms.Gather(all[:], fileOf), "")
}

// fileOf returns the file of a part, as the one thing that is found of it.
func fileOf(p part) []string {
	text := p.print()
	begin := terms.PrintLine(beginWord, p.word())
	end := terms.PrintLine(endWord, p.word(), terms.PrintNumber(sum(text)))
	return []string{begin + text + end}
}

// differ returns the parts in which two books are not equal; equal ones have the same text, and no others have.
func (c checked) differ(other checked) []int {
	var differing []int
	own, others := c.parts(), other.parts()
	for i := range partCount {
		if own[i].print() != others[i].print() {
			differing = append(differing, i)
		}
	}
	return differing
}

// wrongFile is the number of the line at which a file is wrong, and what is wrong there.
type wrongFile struct {
	line  int
	hitch api.Hitch
}

func (w wrongFile) Error() string {
	return "line " + strconv.Itoa(w.line) + " of a file: hitch " + strconv.Itoa(int(w.hitch))
}

// wrongAt returns the error of the line with an index.
func wrongAt(index int, h api.Hitch) wrongFile { return wrongFile{line: index + 1, hitch: h} }

// fileLines are the lines of a file.
type fileLines []string

// book reads all parts; its error is a wrongFile.
func (f fileLines) book() (b book, err error) {
	none, next := b.parts(), 0
parts:
	for i := range partCount {
		p, behind, wrong := f.part(none[i], next)
		switch {
		case wrong != nil:
			err = wrong
			break parts
		case i == partCount-1 && behind < len(f):
			err = wrongAt(behind, api.Shape)
			break parts
		}
		b, next = b.with(p), behind
	}
	return b, err
}

// part reads a part that is like another one, and is to begin at a line; it returns the index of the line behind it, too.
func (f fileLines) part(like part, begin int) (p part, behind int, err error) {
	end, err := f.end(like.word(), begin)
	if err != nil {
		return nil, 0, err
	}
	p, line, h := like.read(f.text(begin+1, end))
	if h != api.Smooth {
		return nil, 0, wrongAt(begin+line, h)
	}
	return p, end + 1, nil
}

// end returns the index of the last line of the part of a word that is to begin at a line.
func (f fileLines) end(word string, begin int) (int, error) {
	if begin == len(f) || f[begin] != terms.PrintFields(beginWord, word) {
		return 0, wrongAt(begin, api.Shape)
	}
	behind := slices.IndexFunc(f[begin+1:], isEnd)
	if behind < 0 {
		return 0, wrongAt(len(f), api.Shape)
	}
	end := begin + 1 + behind
	told, ok := sumIn(f[end], word)
	if !ok {
		return 0, wrongAt(end, api.Shape)
	}
	if told != sum(f.text(begin+1, end)) {
		return 0, wrongAt(end, api.Adrift)
	}
	return end, nil
}

// text returns the lines from an index on, and below another one, each with a line feed.
func (f fileLines) text(from, below int) string {
	return terms.PrintEach(f[from:below], func(line string) string { return terms.PrintLine(line) })
}

// isEnd tells whether a line has the word of those with which parts end, whether it has their form or not.
func isEnd(line string) bool {
	word, _, _ := strings.Cut(line, blank)
	return word == endWord
}

// sumIn returns the sum that is told in the line with which the part of a word ends, and whether that has its form.
func sumIn(line, word string) (int, bool) {
	fields, ok := terms.Fields(line)
	if !ok || len(fields) != 3 || fields[1] != word {
		return 0, false
	}
	return terms.Number(fields[2])
}
