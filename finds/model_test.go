package finds_test

import (
	"math/rand"
	"slices"
	"strings"
	"testing"

	"lagan/api"
	"lagan/finds"
	"lagan/model"
)

// The model is a second, slow way to reckon what package finds tells: it writes down all lists of lines, looks at each whether it is a case, and goes through all cases for each question.

func reach(least, most int) api.Reach { return api.Reach{Least: least, Most: most} }

func one(n int) api.Reach { return reach(n, n) }

func line(ship int, mark string, count int) api.FindsLine {
	return api.FindsLine{Ship: ship, Mark: mark, Count: count}
}

func same(a, b int) api.FindsNote { return api.FindsNote{A: a, B: b, Same: true} }

func other(a, b int) api.FindsNote { return api.FindsNote{A: a, B: b} }

// bookF is the book F of the chapter.
func bookF() api.FindsBook {
	return api.FindsBook{
		Strays: 1,
		Lines:  []api.FindsLine{line(0, "ab", 2), line(0, "ac", 1), line(1, "ab", 1)},
		Finds:  []string{"a?", "?b", "ac"},
		Notes:  []api.FindsNote{same(0, 1)},
	}
}

// plain is F without notes.
func plain() api.FindsBook { return noted(bookF()) }

// adriftBook is a book without a case, as two notes clash.
func adriftBook() api.FindsBook { return noted(bookF(), same(0, 1), other(0, 1)) }

// lacking is a book without a case, whatever is noted.
func lacking() api.FindsBook {
	return api.FindsBook{Lines: []api.FindsLine{line(0, "a", 1)}, Finds: []string{"b"}}
}

// three is a book with three finds that are of one of two ships.
func three() api.FindsBook {
	return api.FindsBook{Lines: []api.FindsLine{line(0, "a", 3), line(1, "a", 3)}, Finds: []string{"a", "a", "a"}}
}

// widest is a book in which all is as much as can be, and as little known.
func widest() api.FindsBook {
	b := api.FindsBook{Strays: 3, Finds: slices.Repeat([]string{"????"}, 5)}
	for i, mark := range []string{"aaaa", "aaab", "aaba", "zzzz", "aaaa"} {
		b.Lines = append(b.Lines, line(i%3, mark, 3))
	}
	return b
}

// noted returns a book with other notes.
func noted(b api.FindsBook, notes ...api.FindsNote) api.FindsBook {
	b = clone(b)
	b.Notes = notes
	return b
}

// brought returns a book with other finds.
func brought(b api.FindsBook, marks ...string) api.FindsBook {
	b = clone(b)
	b.Finds = marks
	return b
}

// listed returns a book with other lines.
func listed(b api.FindsBook, lines ...api.FindsLine) api.FindsBook {
	b = clone(b)
	b.Lines = lines
	return b
}

// allowing returns a book that allows so many strays.
func allowing(b api.FindsBook, strays int) api.FindsBook {
	b = clone(b)
	b.Strays = strays
	return b
}

func clone(b api.FindsBook) api.FindsBook {
	b.Lines = slices.Clone(b.Lines)
	b.Finds = slices.Clone(b.Finds)
	b.Notes = slices.Clone(b.Notes)
	return b
}

func equal(a, b api.FindsBook) bool {
	return a.Strays == b.Strays && slices.Equal(a.Lines, b.Lines) && slices.Equal(a.Finds, b.Finds) && slices.Equal(a.Notes, b.Notes)
}

func isZero(b api.FindsBook) bool {
	return b.Strays == 0 && b.Lines == nil && b.Finds == nil && b.Notes == nil
}

// modelFits wears a mark as a find is worn, and looks whether it is the find's then.
func modelFits(find, mark string) bool {
	if len(find) != len(mark) {
		return false
	}
	seen := []byte(mark)
	for i := range seen {
		if find[i] == '?' {
			seen[i] = '?'
		}
	}
	return string(seen) == find
}

// modelShip returns the ship of a find in a case, -1 of a stray.
func modelShip(b api.FindsBook, lines []int, find int) int {
	if lines[find] < 0 {
		return -1
	}
	return b.Lines[lines[find]].Ship
}

func modelSame(b api.FindsBook, lines []int, n api.FindsNote) bool {
	a, c := modelShip(b, lines, n.A), modelShip(b, lines, n.B)
	return a >= 0 && c >= 0 && a == c
}

// modelMany returns how many finds something is so of.
func modelMany(b api.FindsBook, isSo func(find int) bool) int {
	many := 0
	for find := range b.Finds {
		if isSo(find) {
			many++
		}
	}
	return many
}

// modelOf returns how many finds are of a line, -1 for strays, in a case.
func modelOf(b api.FindsBook, lines []int, line int) int {
	return modelMany(b, func(find int) bool { return lines[find] == line })
}

// modelOfShip returns how many finds are of a ship in a case.
func modelOfShip(b api.FindsBook, lines []int, ship int) int {
	return modelMany(b, func(find int) bool { return modelShip(b, lines, find) == ship })
}

// modelThings returns how many things the lines of the ship 0 have.
func modelThings(b api.FindsBook) int {
	things := 0
	for _, l := range b.Lines {
		if l.Ship == 0 {
			things += l.Count
		}
	}
	return things
}

// modelIs tells whether lines that have no hitch are a case of a book.
func modelIs(b api.FindsBook, lines []int) bool {
	for find, l := range lines {
		if l >= 0 && !modelFits(b.Finds[find], b.Lines[l].Mark) {
			return false
		}
	}
	if modelOf(b, lines, -1) > b.Strays {
		return false
	}
	for i, l := range b.Lines {
		if modelOf(b, lines, i) > l.Count {
			return false
		}
	}
	for _, n := range b.Notes {
		if modelSame(b, lines, n) != n.Same {
			return false
		}
	}
	return true
}

// modelAll returns all lists that have no hitch, cases of the book or not.
func modelAll(b api.FindsBook) [][]int {
	anyLine := reach(-1, len(b.Lines)-1)
	return model.Numberings(slices.Repeat([]api.Reach{anyLine}, len(b.Finds)))
}

// modelCases returns the cases of a book.
func modelCases(b api.FindsBook) [][]int {
	var cases [][]int
	for _, lines := range modelAll(b) {
		if modelIs(b, lines) {
			cases = append(cases, lines)
		}
	}
	return cases
}

// modelSpan returns the reach of what is told of cases, of which there is one.
func modelSpan(cases [][]int, tell func(lines []int) int) api.Reach {
	numbers := model.NumbersOf(cases, tell)
	return reach(numbers[0], numbers[len(numbers)-1])
}

// modelLeft returns how many cases are left, at most, once a letter is cleaned, whichever it is.
func modelLeft(b api.FindsBook, cases [][]int, find, place int) int {
	most := 0
	for letter := byte('a'); letter <= 'z'; letter++ {
		many := 0
		for _, lines := range cases {
			if l := lines[find]; l < 0 || b.Lines[l].Mark[place] == letter {
				many++
			}
		}
		most = max(most, many)
	}
	return most
}

// modelAsk returns what is to be cleaned, and how many cases are left.
func modelAsk(b api.FindsBook, cases [][]int) (find, place, left int) {
	find, place, left = -1, -1, len(cases)
	for i, mark := range b.Finds {
		for k := range len(mark) {
			if mark[k] != '?' {
				continue
			}
			if n := modelLeft(b, cases, i, k); n < left {
				find, place, left = i, k, n
			}
		}
	}
	return find, place, left
}

// modelFewest returns how many strays there are at least.
func modelFewest(b api.FindsBook) (strays int, found bool) {
	for strays := range len(b.Finds) + 1 {
		if len(modelCases(allowing(b, strays))) > 0 {
			return strays, true
		}
	}
	return 0, false
}

// only returns a book with some of its notes.
func only(b api.FindsBook, list []int) api.FindsBook {
	var notes []api.FindsNote
	for _, i := range list {
		notes = append(notes, b.Notes[i])
	}
	return noted(b, notes...)
}

// modelClash returns the fewest notes with which there is no case.
func modelClash(b api.FindsBook) ([]int, api.Hitch) {
	if len(modelCases(noted(b))) == 0 {
		return nil, api.Lacking
	}
	fewest, _ := model.FewestOf(len(b.Notes), func(l []int) bool { return len(modelCases(only(b, l))) == 0 })
	return fewest, api.Smooth
}

func randomMark(r *rand.Rand, long int) string {
	var mark strings.Builder
	for range long {
		mark.WriteByte("abc"[r.Intn(3)])
	}
	return mark.String()
}

// randomWorn returns a mark some letters of which cannot be read.
func randomWorn(r *rand.Rand, mark string) string {
	worn := []byte(mark)
	for i := range worn {
		if r.Intn(3) == 0 {
			worn[i] = '?'
		}
	}
	return string(worn)
}

// randomLines returns the lines of lists; most marks are as long.
func randomLines(r *rand.Rand) []api.FindsLine {
	var lines []api.FindsLine
	long := 1 + r.Intn(3)
	for range 1 + r.Intn(5) {
		l := line(r.Intn(3), randomMark(r, long+r.Intn(5)/4), 1+r.Intn(3))
		isSame := func(x api.FindsLine) bool { return x.Ship == l.Ship && x.Mark == l.Mark }
		if !slices.ContainsFunc(lines, isSame) {
			lines = append(lines, l)
		}
	}
	return lines
}

// randomFind brings up one more find, of which line it ever is, where there is room.
func randomFind(r *rand.Rand, b api.FindsBook, really []int) (string, int, bool) {
	l := r.Intn(len(b.Lines)+1) - 1
	if l >= 0 && modelOf(b, really, l) < b.Lines[l].Count {
		return randomWorn(r, b.Lines[l].Mark), l, true
	}
	if modelOf(b, really, -1) < b.Strays {
		long := len(b.Lines[r.Intn(len(b.Lines))].Mark)
		return randomWorn(r, randomMark(r, long)), -1, true
	}
	return "", 0, false
}

// randomNote returns a note of two of a book's finds that is right.
func randomNote(r *rand.Rand, b api.FindsBook, really []int) api.FindsNote {
	two := r.Perm(len(b.Finds))[:2]
	slices.Sort(two)
	n := other(two[0], two[1])
	n.Same = modelSame(b, really, n)
	return n
}

// randomBook returns a book, and what is really so: the book is right about it if honest is so.
func randomBook(r *rand.Rand, honest bool) (b api.FindsBook, really []int) {
	b.Strays, b.Lines = max(0, r.Intn(5)-1), randomLines(r)
	for range r.Intn(6) {
		if mark, l, ok := randomFind(r, b, really); ok {
			b.Finds, really = append(b.Finds, mark), append(really, l)
		}
	}
	if !honest {
		b.Strays = r.Intn(b.Strays + 1)
	}
	for range r.Intn(4) {
		if len(b.Finds) < 2 {
			break
		}
		n := randomNote(r, b, really)
		if !honest && r.Intn(3) == 0 {
			n.Same = !n.Same
		}
		b.Notes = append(b.Notes, n)
	}
	return b, really
}

// eachRandom calls a test with several books, some of which have no case.
func eachRandom(many int, test func(r *rand.Rand, b api.FindsBook)) {
	r := rand.New(rand.NewSource(9))
	for i := range many {
		b, _ := randomBook(r, i%2 == 0)
		test(r, b)
	}
}

func mustCases(t *testing.T, b api.FindsBook) int {
	t.Helper()
	n, h := finds.Cases(b)
	if h != api.Smooth {
		t.Fatalf("Cases(%v): %v", b, h)
	}
	return n
}
