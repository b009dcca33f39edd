package finds_test

import (
	"math/rand"
	"slices"
	"testing"

	"lagan/api"
	"lagan/finds"
	"lagan/model"
)

// Tests of P9.6 to P9.12: what holds of all books.

// P9.6, P0.4
func TestWhateverTheyAre(t *testing.T) {
	r := rand.New(rand.NewSource(10))
	sure, ours, news := 0, 0, 0
	for range 600 {
		b, really := randomBook(r, true)
		if is, h := finds.IsCase(b, really); !is || h != api.Smooth {
			t.Fatalf("%v, %v: no case: %v", b, really, h)
		}
		sure += checkRight(t, b, really)
		ours += checkOurs(t, b, really)
		checkCounted(t, b, really)
		news += checkNothingRefused(t, r, b, really)
	}
	if sure < 500 || ours < 100 || news < 500 {
		t.Errorf("so much was sure: %d, so many finds surely ours: %d, so many news: %d", sure, ours, news)
	}
}

// checkRight checks that what is told of finds is so, and returns how much of it is sure.
func checkRight(t *testing.T, b api.FindsBook, really []int) int {
	t.Helper()
	sure := 0
	right := func(u api.Known, h api.Hitch, is bool) {
		t.Helper()
		if h != api.Smooth || u != unsure && (u == surely) != is {
			t.Errorf("%v, %v: %v, %v", b, really, u, h)
		}
		if u != unsure {
			sure++
		}
	}
	for find, l := range really {
		if lines, h := finds.Lines(b, find); !slices.Contains(lines, l) || h != api.Smooth {
			t.Errorf("%v, %v: Lines %d: %v, %v", b, really, find, lines, h)
		}
		for ship := range 3 {
			u, h := finds.Of(b, find, ship)
			right(u, h, modelShip(b, really, find) == ship)
		}
		u, h := finds.Stray(b, find)
		right(u, h, l < 0)
	}
	return sure
}

// checkOurs checks that what is told of the ship 0 is so, and returns how many finds surely are of it.
func checkOurs(t *testing.T, b api.FindsBook, really []int) int {
	t.Helper()
	sure, perhaps, h := finds.Ours(b)
	for find := range b.Finds {
		is := modelShip(b, really, find) == 0
		if slices.Contains(sure, find) && !is || is && !slices.Contains(slices.Concat(sure, perhaps), find) || h != api.Smooth {
			t.Errorf("%v, %v: Ours: %v, %v, %v", b, really, sure, perhaps, h)
		}
	}
	lost := modelThings(b) - modelOfShip(b, really, 0)
	if r, h := finds.Lost(b); !model.In(r, lost) || h != api.Smooth {
		t.Errorf("%v, %v: Lost: %v, %v", b, really, r, h)
	}
	return len(sure)
}

// checkCounted checks that there are as many finds of lines and ships, and strays, as is told.
func checkCounted(t *testing.T, b api.FindsBook, really []int) {
	t.Helper()
	for line := range b.Lines {
		if r, h := finds.Many(b, line); !model.In(r, modelOf(b, really, line)) || h != api.Smooth {
			t.Errorf("%v, %v: Many %d: %v, %v", b, really, line, r, h)
		}
	}
	for ship := range 3 {
		if r, h := finds.Total(b, ship); !model.In(r, modelOfShip(b, really, ship)) || h != api.Smooth {
			t.Errorf("%v, %v: Total %d: %v, %v", b, really, ship, r, h)
		}
	}
	if strays, found, h := finds.Fewest(b); !found || strays > modelOf(b, really, -1) || h != api.Smooth {
		t.Errorf("%v, %v: Fewest: %d, %v, %v", b, really, strays, found, h)
	}
	if l, h := finds.Clash(b); len(l) > 0 || h != api.Smooth {
		t.Errorf("%v, %v: Clash: %v, %v", b, really, l, h)
	}
}

// checkNothingRefused checks that nothing right is refused, and that it stays a case then; it returns how many news there are.
func checkNothingRefused(t *testing.T, r *rand.Rand, b api.FindsBook, really []int) int {
	t.Helper()
	news := 0
	right := func(o api.FindsBook, h api.Hitch, really []int) {
		t.Helper()
		if is, g := finds.IsCase(o, really); !is || g != api.Smooth || h != api.Smooth {
			t.Errorf("%v, %v: %v, %v, %v, %v", b, really, o, h, is, g)
		}
		news++
	}
	for find, mark := range b.Finds {
		for place := range len(mark) {
			if mark[place] != '?' {
				continue
			}
			letter := "q"
			if l := really[find]; l >= 0 {
				letter = b.Lines[l].Mark[place : place+1]
			}
			o, h := finds.Clean(b, find, place, letter)
			right(o, h, really)
		}
	}
	if len(b.Finds) > 1 && len(b.Notes) < 3 {
		o, h := finds.Note(b, randomNote(r, b, really))
		right(o, h, really)
	}
	if mark, l, ok := randomFind(r, b, really); ok && len(b.Finds) < 5 {
		o, h := finds.Bring(b, mark)
		right(o, h, append(slices.Clone(really), l))
	}
	return news
}

// P9.7
func TestNoOthers(t *testing.T) {
	several, unsures := 0, 0
	eachRandom(300, func(_ *rand.Rand, b api.FindsBook) {
		var cases [][]int
		for _, lines := range modelAll(b) {
			if is, h := finds.IsCase(b, lines); is && h == api.Smooth {
				cases = append(cases, lines)
			}
		}
		if n := mustCases(t, b); n != len(cases) {
			t.Errorf("Cases(%v): %d, but %d are cases", b, n, len(cases))
		}
		for find := range b.Finds {
			of, _ := finds.Lines(b, find)
			if len(of) > 1 {
				several++
			}
			for line := -1; line < len(b.Lines); line++ {
				isSo := slices.ContainsFunc(cases, func(lines []int) bool { return lines[find] == line })
				if slices.Contains(of, line) != isSo {
					t.Errorf("Lines(%v, %d): %v, but %d: %v", b, find, of, line, isSo)
				}
				if fits, h := finds.Fits(b, find, line); isSo && line >= 0 && !fits {
					t.Errorf("%v: %d is of the line %d, which it does not fit: %v", b, find, line, h)
				}
			}
			unsures += checkUnsure(t, b, cases, find)
		}
	})
	if several < 200 || unsures < 200 {
		t.Errorf("%d finds can be of several lines, and so much was unsure: %d", several, unsures)
	}
}

// checkUnsure checks that what is unsure is so in a case, and is not in another one, and returns how much that is.
func checkUnsure(t *testing.T, b api.FindsBook, cases [][]int, find int) int {
	t.Helper()
	unsures := 0
	for ship := -1; ship < 3; ship++ {
		u, h := finds.Stray(b, find)
		if ship >= 0 {
			u, h = finds.Of(b, find, ship)
		}
		if u != unsure || h != api.Smooth {
			continue
		}
		unsures++
		so := map[bool]int{}
		for _, lines := range cases {
			so[modelShip(b, lines, find) == ship]++
		}
		if so[true] == 0 || so[false] == 0 {
			t.Errorf("%v: whether %d is of %d is %v, but %v", b, find, ship, u, so)
		}
	}
	return unsures
}

// P9.8
func TestSums(t *testing.T) {
	settled, lost := 0, 0
	eachRandom(400, func(_ *rand.Rand, b api.FindsBook) {
		if mustCases(t, b) == 0 {
			return
		}
		least, most := 0, 0
		for ship := range 3 {
			r, _ := finds.Total(b, ship)
			least, most = least+r.Least, most+r.Most
		}
		for find := range b.Finds {
			switch u, _ := finds.Stray(b, find); u {
			case surely:
				least, most = least+1, most+1
			case unsure:
				most++
			}
		}
		all := len(b.Finds)
		isSettled := mustCases(t, b) == 1
		if least > all || most < all || isSettled && (least != all || most != all) {
			t.Errorf("%v: %d finds, but from %d to %d", b, all, least, most)
		}
		if isSettled {
			settled++
		}
		up, _ := finds.Total(b, 0)
		r, h := finds.Lost(b)
		if things := modelThings(b); r.Least+up.Most != things || r.Most+up.Least != things || h != api.Smooth {
			t.Errorf("%v: %v are lost, %v came up, of %d", b, r, up, things)
		}
		if r.Least > 0 {
			lost++
		}
	})
	if settled < 30 || lost < 30 {
		t.Errorf("%d books have one case, of %d something is lost", settled, lost)
	}
}

// settledAs returns a book that has no other case than this one: each line has a letter of its own, and so have strays.
func settledAs(b api.FindsBook, lines []int) api.FindsBook {
	o := allowing(b, modelOf(b, lines, -1))
	for i := range o.Lines {
		o.Lines[i].Mark = "abcde"[i : i+1]
	}
	for find, l := range lines {
		if l < 0 {
			o.Finds[find] = "z"
		} else {
			o.Finds[find] = o.Lines[l].Mark
		}
	}
	return o
}

// P9.8: in each case.
func TestSumsOfACase(t *testing.T) {
	sums := 0
	eachRandom(200, func(r *rand.Rand, b api.FindsBook) {
		cases := modelCases(b)
		if len(cases) == 0 {
			return
		}
		sums++
		lines := cases[r.Intn(len(cases))]
		o := settledAs(b, lines)
		if n := mustCases(t, o); n != 1 {
			t.Fatalf("%v has %d cases", o, n)
		}
		all := modelOf(b, lines, -1)
		for ship := range 3 {
			x, h := finds.Total(o, ship)
			if x != one(modelOfShip(b, lines, ship)) || h != api.Smooth {
				t.Errorf("Total(%v, %d): %v, %v", o, ship, x, h)
			}
			all += x.Least
		}
		if all != len(b.Finds) {
			t.Errorf("%v: %d finds of ships, and strays", o, all)
		}
		for line := range o.Lines {
			if x, h := finds.Many(o, line); x != one(modelOf(b, lines, line)) || h != api.Smooth {
				t.Errorf("Many(%v, %d): %v, %v", o, line, x, h)
			}
		}
	})
	if sums < 100 {
		t.Errorf("%d sums", sums)
	}
}

// P9.9
func TestStraysAllowed(t *testing.T) {
	refused, hopeless := 0, 0
	eachRandom(300, func(_ *rand.Rand, b api.FindsBook) {
		strays, found, h := finds.Fewest(b)
		if h != api.Smooth || strays > len(b.Finds) {
			t.Errorf("Fewest(%v): %d, %v, %v", b, strays, found, h)
		}
		for allowed := range 4 {
			o := allowing(b, allowed)
			if is := mustCases(t, o) > 0; is != (found && strays <= allowed) {
				t.Errorf("%v: Fewest: %d, %v, but with %d: %v", b, strays, found, allowed, is)
			}
			if n, is, h := finds.Fewest(o); n != strays || is != found || h != api.Smooth {
				t.Errorf("%v: Fewest: %d, %v, but with %d: %d, %v, %v", b, strays, found, allowed, n, is, h)
			}
		}
		if strays > b.Strays {
			refused++
		}
		if !found {
			hopeless++
		}
	})
	if refused < 10 || hopeless < 10 {
		t.Errorf("%d books allow too few strays, the notes of %d cannot be right", refused, hopeless)
	}
}

// news returns a book in which something is new that was cleaned or noted, right or wrong.
func news(r *rand.Rand, b api.FindsBook) (api.FindsBook, api.Hitch) {
	find := r.Intn(len(b.Finds))
	if r.Intn(2) == 0 {
		return finds.Clean(b, find, r.Intn(len(b.Finds[find])), randomMark(r, 1))
	}
	return finds.Note(b, api.FindsNote{A: r.Intn(find + 1), B: find, Same: r.Intn(2) == 0})
}

// P9.10, P0.5
func TestNewsTakeNothingBack(t *testing.T) {
	learnt := 0
	eachRandom(600, func(r *rand.Rand, b api.FindsBook) {
		for range min(6, 6*len(b.Finds)) {
			if o, h := news(r, b); h == api.Smooth {
				learnt++
				checkLearnt(t, b, o)
			}
		}
	})
	if learnt < 300 {
		t.Errorf("%d news", learnt)
	}
}

// checkLearnt checks that the new book has nothing that the old one rules out, and keeps what was sure.
func checkLearnt(t *testing.T, before, after api.FindsBook) {
	t.Helper()
	if mustCases(t, after) > mustCases(t, before) {
		t.Errorf("%v has more cases than %v", after, before)
	}
	checkKept(t, before, after)
	for line := range before.Lines {
		was, _ := finds.Many(before, line)
		if r, _ := finds.Many(after, line); r.Least < was.Least || r.Most > was.Most {
			t.Errorf("Many(%v, %d): %v, but of %v: %v", after, line, r, before, was)
		}
	}
	for ship := range 3 {
		was, _ := finds.Total(before, ship)
		if r, _ := finds.Total(after, ship); r.Least < was.Least || r.Most > was.Most {
			t.Errorf("Total(%v, %d): %v, but of %v: %v", after, ship, r, before, was)
		}
	}
	was, _ := finds.Lost(before)
	if r, _ := finds.Lost(after); r.Least < was.Least || r.Most > was.Most {
		t.Errorf("Lost(%v): %v, but of %v: %v", after, r, before, was)
	}
	fewest, _, _ := finds.Fewest(before)
	if n, found, _ := finds.Fewest(after); n < fewest || !found {
		t.Errorf("Fewest(%v): %d, %v, but of %v: %d", after, n, found, before, fewest)
	}
}

// checkKept checks that what was sure of finds is so still.
func checkKept(t *testing.T, before, after api.FindsBook) {
	t.Helper()
	for find := range before.Finds {
		was, _ := finds.Lines(before, find)
		if l, _ := finds.Lines(after, find); !model.Contains(was, l) {
			t.Errorf("%v: %d is of %v, but %v: %v", after, find, l, before, was)
		}
		stray, _ := finds.Stray(before, find)
		if u, _ := finds.Stray(after, find); stray != unsure && u != stray {
			t.Errorf("%v takes back of %v whether %d is a stray", after, before, find)
		}
		for ship := range 3 {
			of, _ := finds.Of(before, find, ship)
			if u, _ := finds.Of(after, find, ship); of != unsure && u != of {
				t.Errorf("%v takes back of %v whether %d is of %d", after, before, find, ship)
			}
		}
	}
	sure, perhaps, _ := finds.Ours(before)
	l, k, _ := finds.Ours(after)
	for find := range before.Finds {
		if slices.Contains(sure, find) && !slices.Contains(l, find) || slices.Contains(k, find) && !slices.Contains(perhaps, find) {
			t.Errorf("Ours(%v): %v, %v, but of %v: %v, %v", after, l, k, before, sure, perhaps)
		}
	}
}

// P0.5: one more find takes nothing back of the others, though it can be of several lines itself.
func TestBroughtTakesNothingBack(t *testing.T) {
	more := 0
	eachRandom(300, func(r *rand.Rand, b api.FindsBook) {
		mark := randomWorn(r, b.Lines[r.Intn(len(b.Lines))].Mark)
		o, h := finds.Bring(b, mark)
		if h != api.Smooth {
			return
		}
		more++
		checkKept(t, b, o)
		was, _ := finds.Lost(b)
		if x, _ := finds.Lost(o); x.Most > was.Most || x.Least < was.Least-1 {
			t.Errorf("Lost(%v): %v, but of %v: %v", o, x, b, was)
		}
	})
	if more < 100 {
		t.Errorf("%d finds were brought", more)
	}
}

// P9.10
func TestNotesClashAlone(t *testing.T) {
	clashed := 0
	eachRandom(300, func(r *rand.Rand, b api.FindsBook) {
		b = notesAtRandom(r, b)
		l, h := finds.Clash(b)
		clashes := func(l []int) bool { return mustCases(t, only(b, l)) == 0 }
		if len(l) == 0 {
			if clashes(nil) != (h == api.Lacking) || mustCases(t, b) == 0 && h == api.Smooth {
				t.Errorf("Clash(%v): %v, %v", b, l, h)
			}
			return
		}
		clashed++
		if !clashes(l) || h != api.Smooth {
			t.Errorf("Clash(%v): %v, %v, but they have a case", b, l, h)
		}
		for _, few := range model.Lists(len(b.Notes)) {
			if model.CompareLists(few, l) < 0 && clashes(few) {
				t.Errorf("Clash(%v): %v, but %v clash", b, l, few)
			}
		}
	})
	if clashed < 50 {
		t.Errorf("%d books clash", clashed)
	}
}

// mostLeft returns how many cases are left at most once a letter is cleaned, whichever it is.
func mostLeft(t *testing.T, b api.FindsBook, find, place int) int {
	t.Helper()
	most := 0
	for letter := 'a'; letter <= 'z'; letter++ {
		o, h := finds.Clean(b, find, place, string(letter))
		if h == api.Smooth {
			most = max(most, mustCases(t, o))
		} else if h != api.Adrift {
			t.Fatalf("Clean(%v, %d, %d, %c): %v", b, find, place, letter, h)
		}
	}
	return most
}

// P9.10
func TestAskedIsCleaned(t *testing.T) {
	asked := 0
	eachRandom(500, func(_ *rand.Rand, b api.FindsBook) {
		find, place, left, h := finds.Ask(b)
		if h != api.Smooth {
			return
		}
		if cases := mustCases(t, b); (find < 0) != (left == cases) || (find < 0) != (place < 0) || left > cases {
			t.Errorf("Ask(%v): %d, %d, %d, of %d cases", b, find, place, left, cases)
		}
		if find < 0 {
			return
		}
		asked++
		if most := mostLeft(t, b, find, place); most != left {
			t.Errorf("Ask(%v): %d, %d, %d, but %d are left", b, find, place, left, most)
		}
	})
	if asked < 70 {
		t.Errorf("Ask asked %d times", asked)
	}
}

// P9.11
func TestMore(t *testing.T) {
	more := 0
	eachRandom(300, func(r *rand.Rand, b api.FindsBook) {
		o := clone(b)
		line := r.Intn(len(b.Lines))
		if r.Intn(2) == 0 {
			o.Strays = min(3, o.Strays+1+r.Intn(2))
		} else {
			o.Lines[line].Count = min(3, o.Lines[line].Count+1+r.Intn(2))
		}
		was := mustCases(t, b)
		n := mustCases(t, o)
		if n < was {
			t.Errorf("%v has %d cases, but %v %d", o, n, b, was)
		}
		if n > was {
			more++
		}
		for find := range b.Finds {
			was, _ := finds.Lines(b, find)
			if l, _ := finds.Lines(o, find); !model.Contains(l, was) {
				t.Errorf("%v: %d is of %v, but %v: %v", o, find, l, b, was)
			}
		}
	})
	if more < 50 {
		t.Errorf("%d books have more cases", more)
	}
}

// shuffled returns a book in another order, and which of the old finds are where.
func shuffled(r *rand.Rand, b api.FindsBook) (o api.FindsBook, order []int) {
	o, order = clone(b), r.Perm(len(b.Finds))
	for i, find := range order {
		o.Finds[i] = b.Finds[find]
	}
	for i, note := range r.Perm(len(b.Notes)) {
		n := b.Notes[note]
		a, c := slices.Index(order, n.A), slices.Index(order, n.B)
		o.Notes[i] = api.FindsNote{A: min(a, c), B: max(a, c), Same: n.Same}
	}
	return o, order
}

// inOrder returns which of a list's old finds they are, ascending.
func inOrder(order, list []int) []int {
	var old []int
	for _, i := range list {
		old = append(old, order[i])
	}
	slices.Sort(old)
	return old
}

// P9.12
func TestOrder(t *testing.T) {
	eachRandom(300, func(r *rand.Rand, b api.FindsBook) {
		o, order := shuffled(r, b)
		sameNumbers(t, b, o)
		for i, find := range order {
			sameFind(t, b, o, find, i, []int{0, 1, 2})
		}
		sure, perhaps, h := finds.Ours(b)
		if l, k, g := finds.Ours(o); !slices.Equal(inOrder(order, l), sure) || !slices.Equal(inOrder(order, k), perhaps) || g != h {
			t.Errorf("Ours(%v): %v, %v, and in another order %v, %v", b, sure, perhaps, l, k)
		}
		was, h := finds.Lost(b)
		if x, g := finds.Lost(o); x != was || g != h {
			t.Errorf("Lost(%v): %v, and in another order %v", b, was, x)
		}
		sameTotals(t, b, o, []int{0, 1, 2})
		find, _, _, h := finds.Ask(b)
		// Of several letters the first one can be another one.
		i, place, left, g := finds.Ask(o)
		if g != h || (i < 0) != (find < 0) {
			t.Errorf("Ask(%v): %d, %v, and in another order %d, %v", b, find, h, i, g)
		}
		if g == api.Smooth && i >= 0 {
			if most := mostLeft(t, b, order[i], place); most != left {
				t.Errorf("Ask(%v): %d are left, and in another order %d", b, most, left)
			}
		}
	})
}

// sameFind checks that as much is told of a find, which is the find i of the other book, where ships have other numbers.
func sameFind(t *testing.T, b, o api.FindsBook, find, i int, ships []int) {
	t.Helper()
	was, h := finds.Lines(b, find)
	if l, g := finds.Lines(o, i); !slices.Equal(l, was) || g != h {
		t.Errorf("Lines(%v, %d): %v, but of %v: %v", b, find, was, o, l)
	}
	stray, h := finds.Stray(b, find)
	if u, g := finds.Stray(o, i); u != stray || g != h {
		t.Errorf("Stray(%v, %d): %v, but of %v: %v", b, find, stray, o, u)
	}
	for ship, now := range ships {
		of, h := finds.Of(b, find, ship)
		if u, g := finds.Of(o, i, now); u != of || g != h {
			t.Errorf("Of(%v, %d, %d): %v, but of %v: %v", b, find, ship, of, o, u)
		}
	}
}

// sameNumbers checks that two books have as many cases, finds of lines, strays, clashing notes, and cases left.
func sameNumbers(t *testing.T, b, o api.FindsBook) {
	t.Helper()
	if n, m := mustCases(t, b), mustCases(t, o); n != m {
		t.Fatalf("%v has %d cases, but %v %d", b, n, o, m)
	}
	for line := range b.Lines {
		was, h := finds.Many(b, line)
		if r, g := finds.Many(o, line); r != was || g != h {
			t.Errorf("Many(%v, %d): %v, but of %v: %v", b, line, was, o, r)
		}
	}
	strays, found, h := finds.Fewest(b)
	if n, is, g := finds.Fewest(o); n != strays || is != found || g != h {
		t.Errorf("Fewest(%v): %d, %v, but of %v: %d, %v", b, strays, found, o, n, is)
	}
	few, h := finds.Clash(b)
	if l, g := finds.Clash(o); len(l) != len(few) || g != h {
		t.Errorf("Clash(%v): %v, %v, but of %v: %v, %v", b, few, h, o, l, g)
	}
	_, _, left, h := finds.Ask(b)
	if _, _, n, g := finds.Ask(o); n != left || g != h {
		t.Errorf("Ask(%v): %d, %v, but of %v: %d, %v", b, left, h, o, n, g)
	}
}

// sameTotals checks that as many finds are told to be of ships, which have other numbers in the other book.
func sameTotals(t *testing.T, b, o api.FindsBook, ships []int) {
	t.Helper()
	for ship, now := range ships {
		was, h := finds.Total(b, ship)
		if r, g := finds.Total(o, now); r != was || g != h {
			t.Errorf("Total(%v, %d): %v, but of %v: %v", b, ship, was, o, r)
		}
	}
}

// P9.12: ships that are called otherwise.
func TestShipsCalledOtherwise(t *testing.T) {
	ours := 0
	eachRandom(300, func(r *rand.Rand, b api.FindsBook) {
		ships := r.Perm(3)
		o := clone(b)
		for i, l := range b.Lines {
			o.Lines[i].Ship = ships[l.Ship]
		}
		sameNumbers(t, b, o)
		sameTotals(t, b, o, ships)
		for find := range b.Finds {
			sameFind(t, b, o, find, find, ships)
		}
		was, h := finds.Clash(b)
		if l, g := finds.Clash(o); !slices.Equal(l, was) || g != h {
			t.Errorf("Clash(%v): %v, but of %v: %v", b, was, o, l)
		}
		find, place, _, _ := finds.Ask(b)
		if i, k, _, _ := finds.Ask(o); i != find || k != place {
			t.Errorf("Ask(%v): %d, %d, but of %v: %d, %d", b, find, place, o, i, k)
		}
		sure, _, _ := finds.Ours(o)
		for _, find := range sure {
			ours++
			if u, _ := finds.Of(b, find, slices.Index(ships, 0)); u != surely {
				t.Errorf("Ours(%v): %v, but of %v: %v", o, sure, b, u)
			}
		}
	})
	if ours < 50 {
		t.Errorf("%d finds are of the ship that is called 0", ours)
	}
}
