package terms_test

import (
	"cmp"
	"errors"
	"math"
	"runtime"
	"slices"
	"strings"
	"testing"

	"lagan/api"
	"lagan/terms"
)

func reach(least, most int) api.Reach { return api.Reach{Least: least, Most: most} }

func TestWithin(t *testing.T) {
	for n, want := range map[int]bool{-3: true, 0: true, 5: true, -4: false, 6: false, math.MinInt: false, math.MaxInt: false} {
		if is := terms.Within(n, -3, 5); is != want {
			t.Errorf("%d: %v", n, is)
		}
		if is := terms.Has(reach(-3, 5), n); is != want {
			t.Errorf("%d of a reach: %v", n, is)
		}
	}
}

func TestHitchUnless(t *testing.T) {
	if h := terms.HitchUnless(true, api.Label); h != api.Smooth {
		t.Error(h)
	}
	if h := terms.HitchUnless(false, api.Label); h != api.Label {
		t.Error(h)
	}
}

func TestCheckIndexes(t *testing.T) {
	for i, x := range []struct {
		list []int
		want api.Hitch
	}{
		{nil, api.Smooth}, {[]int{0}, api.Smooth}, {[]int{0, 2}, api.Smooth}, {[]int{0, 1, 2}, api.Smooth},
		{[]int{3}, api.Missing}, {[]int{-1}, api.Missing}, {[]int{math.MinInt}, api.Missing}, {[]int{1, 0}, api.Crossed}, {[]int{1, 1}, api.Crossed},
		{[]int{1, 0, 3}, api.Crossed}, {[]int{1, 3, 0}, api.Missing}, {[]int{2, -1}, api.Missing},
	} {
		if h := terms.CheckIndexes(x.list, 3); h != x.want {
			t.Errorf("%d: %v", i, h)
		}
	}
}

func TestCheckAscending(t *testing.T) {
	for i, x := range []struct {
		list []int
		want api.Hitch
	}{
		{nil, api.Smooth}, {[]int{2}, api.Smooth}, {[]int{2, 3, 5}, api.Smooth},
		{[]int{1}, api.Missing}, {[]int{6}, api.Missing}, {[]int{3, 3}, api.Crossed}, {[]int{3, 2}, api.Crossed}, {[]int{3, 2, 6}, api.Crossed}, {[]int{2, 6, 3}, api.Missing}, {[]int{3, 1}, api.Missing},
	} {
		if h := terms.CheckAscending(x.list, 2, 5); h != x.want {
			t.Errorf("%d: %v", i, h)
		}
	}
}

func TestCheckName(t *testing.T) {
	second := func(words [2]string) string { return words[1] }
	named := [][2]string{{"a", "ann"}, {"ann", "Bo"}, {"b", "ann"}, {"c", ""}, {"d", "bo"}, {"e", "Bo"}}
	// What is no label is that even if it is there already.
	for i, want := range []api.Hitch{api.Smooth, api.Label, api.Double, api.Label, api.Smooth, api.Label} {
		if h := terms.CheckName(named, i, second); h != want {
			t.Errorf("%d: %v", i, h)
		}
	}
}

func TestCheckEach(t *testing.T) {
	for i, x := range []struct {
		numbers []int
		want    api.Hitch
	}{
		{nil, api.Smooth}, {[]int{2}, api.Smooth}, {[]int{5, 2, 5, 3}, api.Smooth}, {[]int{1}, api.Bounds}, {[]int{6}, api.Bounds}, {[]int{2, 3, 6}, api.Bounds}, {[]int{math.MinInt, 2}, api.Bounds}, {[]int{2, math.MaxInt, 2}, api.Bounds},
	} {
		if h := terms.CheckEach(x.numbers, 2, 5); h != x.want {
			t.Errorf("%d: %v", i, h)
		}
	}
}

// crate is a book with a lid and some things, all of which are hitches.
type crate struct {
	lid    api.Hitch
	things []api.Hitch
}

func (c crate) checkLid() api.Hitch { return c.lid }

func (c crate) count() int { return len(c.things) }

func (c crate) checkThing(i int) api.Hitch { return c.things[i] }

func TestCheckParts(t *testing.T) {
	things := terms.Part[crate]{Count: crate.count, Least: 1, Most: 3, Each: crate.checkThing}
	lid := terms.Part[crate]{Check: crate.checkLid}
	for i, x := range []struct {
		c                       crate
		thingsFirst, thingsLast api.Hitch
	}{
		{crate{}, api.Number, api.Number},
		{crate{lid: api.Shape}, api.Number, api.Shape},
		{crate{things: make([]api.Hitch, 1)}, api.Smooth, api.Smooth},
		{crate{things: make([]api.Hitch, 3)}, api.Smooth, api.Smooth},
		{crate{things: make([]api.Hitch, 4)}, api.Number, api.Number},
		{crate{things: []api.Hitch{api.Label, 0, 0, 0}}, api.Number, api.Number},
		{crate{lid: api.Shape, things: make([]api.Hitch, 2)}, api.Shape, api.Shape},
		{crate{lid: api.Shape, things: []api.Hitch{0, api.Missing, api.Label}}, api.Missing, api.Shape},
		{crate{things: []api.Hitch{0, 0, api.Label}}, api.Label, api.Label},
	} {
		if h := terms.CheckParts(x.c, things, lid); h != x.thingsFirst {
			t.Errorf("%d: the things first: %v", i, h)
		}
		if h := terms.CheckParts(x.c, lid, things); h != x.thingsLast {
			t.Errorf("%d: the lid first: %v", i, h)
		}
	}
	if h := terms.CheckParts(crate{lid: api.Shape}); h != api.Smooth {
		t.Error(h)
	}
}

func TestIsLabel(t *testing.T) {
	for _, s := range []string{"a", "z", "ann", "a0", "a9b", "abcdefghijkl"} {
		if !terms.IsLabel(s) {
			t.Errorf("%q is none", s)
		}
	}
	for _, s := range []string{"", "0", "9a", "A", "aB", "a b", "a-b", "a/", "a:", "a`", "a{", "abcdefghijklm", "\x00", "a\xff", "\xffa", "\xc3\xa1", "a٣"} {
		if terms.IsLabel(s) {
			t.Errorf("%q is one", s)
		}
	}
}

func TestCases(t *testing.T) {
	isOdd := func(n int) bool { return n%2 != 0 }
	for i, x := range []struct {
		cases []int
		yes   int
		want  api.Known
		h     api.Hitch
	}{
		{nil, 0, api.Unsure, api.Adrift}, {[]int{1}, 1, api.Surely, api.Smooth}, {[]int{1, 3}, 2, api.Surely, api.Smooth},
		{[]int{2}, 0, api.Never, api.Smooth}, {[]int{2, 4}, 0, api.Never, api.Smooth}, {[]int{1, 2, 3}, 2, api.Unsure, api.Smooth}, {[]int{2, 1}, 1, api.Unsure, api.Smooth},
	} {
		if n := terms.Many(slices.Values(x.cases)); n != len(x.cases) {
			t.Errorf("%d: Many: %d", i, n)
		}
		if is := terms.HasCase(slices.Values(x.cases)); is != (len(x.cases) > 0) {
			t.Errorf("%d: HasCase: %v", i, is)
		}
		if yes, all := terms.Count(slices.Values(x.cases), isOdd); yes != x.yes || all != len(x.cases) {
			t.Errorf("%d: Count: %d, %d", i, yes, all)
		}
		if u, h := terms.Known(slices.Values(x.cases), isOdd); u != x.want || h != x.h {
			t.Errorf("%d: Known: %v, %v", i, u, h)
		}
	}
}

func TestIsOneOf(t *testing.T) {
	type pair struct{ a, b int }
	pairs := []pair{{1, 2}, {3, 4}}
	for x, want := range map[pair]bool{{1, 2}: true, {3, 4}: true, {1, 4}: false, {}: false} {
		if is := terms.IsOneOf(slices.Values(pairs), x); is != want {
			t.Errorf("%v: %v", x, is)
		}
		if terms.IsOneOf(slices.Values(pairs[:0]), x) {
			t.Errorf("%v is one of none", x)
		}
	}
}

func TestTold(t *testing.T) {
	half := func(n int) int { return n / 2 }
	for i, x := range []struct {
		cases, want []int
		h           api.Hitch
	}{
		{nil, nil, api.Adrift}, {[]int{1}, []int{0}, api.Smooth}, {[]int{9, -4, 5, 8, 4}, []int{-2, 2, 4}, api.Smooth},
	} {
		if l, h := terms.Told(slices.Values(x.cases), half); !slices.Equal(l, x.want) || h != x.h {
			t.Errorf("%d: %v, %v", i, l, h)
		}
	}
}

func TestNews(t *testing.T) {
	// A book is a text; it has a hitch if it is long, and as many cases as bytes.
	check := func(s string) (int, api.Hitch) {
		if len(s) > 3 {
			return 0, api.Number
		}
		return len(s), api.Smooth
	}
	hasCase := func(many int) bool { return many > 0 }
	for s, want := range map[string]struct {
		news string
		h    api.Hitch
	}{
		"a": {"a", api.Smooth}, "abc": {"abc", api.Smooth}, "": {"", api.Adrift}, "abcd": {"", api.Number},
	} {
		if o, h := terms.News(s, check, hasCase); o != want.news || h != want.h {
			t.Errorf("%q: %q, %v", s, o, h)
		}
	}
}

func TestFirst(t *testing.T) {
	for i, x := range []struct {
		cases []int
		first int
		found bool
	}{
		{nil, 0, false}, {[]int{0}, 0, true}, {[]int{7, 5, 9}, 7, true},
	} {
		if n, found := terms.First(slices.Values(x.cases)); n != x.first || found != x.found {
			t.Errorf("%d: %d, %v", i, n, found)
		}
	}
	// Those behind it are not asked for.
	yielded := 0
	terms.First(func(yield func(int) bool) {
		for yielded = 1; yield(yielded); yielded++ {
		}
	})
	if yielded != 1 {
		t.Errorf("%d yielded", yielded)
	}
}

func TestFewestSuch(t *testing.T) {
	// Numbers are enough if they are that much together.
	for i, x := range []struct {
		numbers []int
		enough  int
		want    []int
		found   bool
	}{
		{nil, 0, nil, true}, {nil, 1, nil, false}, {[]int{5, 5}, 0, nil, true}, {[]int{5, 5}, 5, []int{0}, true}, {[]int{4, 6, 9}, 6, []int{1}, true}, {[]int{4, 5, 6, 4}, 10, []int{0, 2}, true}, {[]int{4, 5, 6, 5}, 11, []int{1, 2}, true}, {[]int{1, 2, 3}, 6, []int{0, 1, 2}, true}, {[]int{1, 2, 3}, 7, nil, false},
	} {
		isEnough := func(indexes []int) bool {
			all := 0
			for _, n := range terms.Pick(x.numbers, indexes) {
				all += n
			}
			return all >= x.enough
		}
		if l, found := terms.FewestSuch(len(x.numbers), isEnough); !slices.Equal(l, x.want) || found != x.found {
			t.Errorf("%d: %v, %v", i, l, found)
		}
	}
}

func TestBest(t *testing.T) {
	for i, x := range []struct {
		first, want []int
		others      [][]int
	}{
		{[]int{1, 2}, []int{1, 2}, nil},
		{[]int{1, 2}, []int{3}, [][]int{{3}, {1, 1}, {4}}},
		{[]int{1, 2}, []int{1, 1}, [][]int{{1, 3}, {1, 1}, {0, 1, 2}}},
		{[]int{1}, nil, [][]int{{0}, nil}},
	} {
		if l := terms.Best(terms.Fewest, x.first, x.others...); !slices.Equal(l, x.want) {
			t.Errorf("%d: %v", i, l)
		}
	}
	// The first one of several that are equally good.
	type pair struct{ size, index int }
	bySize := func(a, b pair) int { return a.size - b.size }
	if p := terms.Best(bySize, pair{2, 0}, pair{1, 1}, pair{1, 2}, pair{2, 3}); p != (pair{1, 1}) {
		t.Error(p)
	}
	if p := terms.Best(bySize, pair{1, 0}, pair{1, 1}); p != (pair{1, 0}) {
		t.Error(p)
	}
}

func TestRanking(t *testing.T) {
	for i, x := range []struct {
		things [][]int
		want   []int
		found  bool
	}{
		{nil, nil, false}, {[][]int{{3}}, []int{3}, true}, {[][]int{{1, 2}, {4}, {1, 1}, {3}}, []int{3}, true}, {[][]int{{1}, nil}, nil, true},
	} {
		if l, found := terms.Ranking[[]int](terms.Fewest).Best(x.things); !slices.Equal(l, x.want) || found != x.found {
			t.Errorf("%d: %v, %v", i, l, found)
		}
	}
	// The first one of several that are equally good.
	bySize := terms.Ranking[[2]int](func(a, b [2]int) int { return a[0] - b[0] })
	if x, _ := bySize.Best([][2]int{{2, 0}, {1, 1}, {1, 2}, {2, 3}}); x != [2]int{1, 1} {
		t.Error(x)
	}
}

func TestSpan(t *testing.T) {
	for i, x := range []struct {
		numbers []int
		want    api.Reach
		h       api.Hitch
	}{
		{nil, reach(0, 0), api.Adrift}, {[]int{5}, reach(5, 5), api.Smooth}, {[]int{5, 7, -3, 6}, reach(-3, 7), api.Smooth}, {[]int{0, 0}, reach(0, 0), api.Smooth},
	} {
		if r, h := terms.Span(x.numbers); r != x.want || h != x.h {
			t.Errorf("%d: %v, %v", i, r, h)
		}
	}
}

func TestNumberings(t *testing.T) {
	for i, x := range []struct {
		reaches []api.Reach
		want    [][]int
	}{
		{nil, [][]int{nil}}, {[]api.Reach{reach(-1, 1)}, [][]int{{-1}, {0}, {1}}}, {[]api.Reach{reach(1, 0)}, nil}, {[]api.Reach{reach(2, 3), reach(5, 5), reach(-1, 0)}, [][]int{{2, 5, -1}, {2, 5, 0}, {3, 5, -1}, {3, 5, 0}}},
	} {
		all := slices.Collect(terms.Numberings(x.reaches))
		if !slices.EqualFunc(all, x.want, slices.Equal) {
			t.Errorf("%d: %v", i, all)
		}
	}
	// Those behind the last one that is asked for are not yielded, and none changes the next one.
	var all []int
	for l := range terms.Numberings([]api.Reach{reach(1, 3), reach(1, 3)}) {
		all = append(all, l...)
		clear(l)
		if len(all) == 8 {
			break
		}
	}
	if !slices.Equal(all, []int{1, 1, 1, 2, 1, 3, 2, 1}) {
		t.Error(all)
	}
}

func TestBounds(t *testing.T) {
	for i, x := range []struct {
		first       int
		others      []int
		least, most int
	}{
		{5, nil, 5, 5}, {5, []int{5, 5}, 5, 5}, {5, []int{7, -3, 6}, -3, 7}, {-1, []int{0}, -1, 0}, {1, []int{0}, 0, 1}, {0, []int{math.MaxInt, math.MinInt}, math.MinInt, math.MaxInt},
	} {
		if least, most := terms.Bounds(x.first, x.others...); least != x.least || most != x.most {
			t.Errorf("%d: %d, %d", i, least, most)
		}
	}
}

func TestIndexes(t *testing.T) {
	for many, want := range map[int][]int{0: nil, 1: {0}, 4: {0, 1, 2, 3}} {
		if l := terms.Indexes(many); !slices.Equal(l, want) {
			t.Errorf("%d: %v", many, l)
		}
	}
}

func TestLists(t *testing.T) {
	for many, want := range [][][]int{{nil}, {nil, {0}}, {nil, {0}, {1}, {0, 1}}, {nil, {0}, {1}, {0, 1}, {2}, {0, 2}, {1, 2}, {0, 1, 2}}} {
		if l := terms.Lists(many); !slices.EqualFunc(l, want, slices.Equal) {
			t.Errorf("%d: %v", many, l)
		}
	}
	// No two of them share memory.
	for i := range 31 {
		all := terms.Lists(5)
		all[i+1][0] = 9
		for k, l := range terms.Lists(5) {
			if k != i+1 && !slices.Equal(all[k], l) {
				t.Errorf("%d: %v", k, all[k])
			}
		}
	}
}

func TestPick(t *testing.T) {
	things := []string{"a", "b", "c"}
	for i, x := range []struct {
		indexes []int
		want    []string
	}{
		{nil, nil}, {[]int{1}, []string{"b"}}, {[]int{2, 0}, []string{"c", "a"}}, {[]int{0, 1, 2}, things},
	} {
		l := terms.Pick(things, x.indexes)
		if !slices.Equal(l, x.want) {
			t.Errorf("%d: %v", i, l)
		}
		if len(l) > 0 {
			l[0] = "x"
		}
	}
	if !slices.Equal(things, []string{"a", "b", "c"}) {
		t.Error(things)
	}
}

func TestWorst(t *testing.T) {
	half := func(n int) int { return n / 2 }
	for i, x := range []struct {
		cases []int
		want  int
	}{
		{nil, 0}, {[]int{4}, 1}, {[]int{4, 6, 8}, 1}, {[]int{4, 6, 5, 8}, 2}, {[]int{9, 4, 8, 5, 8, 6}, 3}, {[]int{1, 0, 1}, 3},
	} {
		if n := terms.Worst(slices.Values(x.cases), half); n != x.want {
			t.Errorf("%d: %d", i, n)
		}
	}
}

func TestClash(t *testing.T) {
	// There is no case with numbers that are too many together.
	for i, x := range []struct {
		numbers, want []int
	}{
		{nil, nil}, {[]int{1, 2, 3}, nil}, {[]int{9, 1}, nil}, {[]int{11}, []int{0}}, {[]int{1, 11, 12}, []int{1}}, {[]int{4, 5, 6, 6}, []int{1, 2}}, {[]int{4, 4, 1, 4}, []int{0, 1, 3}}, {[]int{1, 4, 4, 1, 4}, []int{1, 2, 4}},
	} {
		hasCase := func(indexes []int) bool {
			all := 0
			for _, i := range indexes {
				all += x.numbers[i]
			}
			return all <= 10
		}
		if l := terms.Clash(len(x.numbers), hasCase); !slices.Equal(l, x.want) {
			t.Errorf("%d: %v", i, l)
		}
	}
}

func TestFound(t *testing.T) {
	half := func(n int) int { return n / 2 }
	for i, x := range []struct{ cases, want []int }{
		{nil, nil}, {[]int{4}, []int{2}}, {[]int{9, 4, 5, 1, 8}, []int{0, 2, 4}}, {[]int{-4, 4, -4}, []int{-2, 2}},
	} {
		if l := terms.Found(slices.Values(x.cases), half, cmp.Compare[int]); !slices.Equal(l, x.want) {
			t.Errorf("%d: %v", i, l)
		}
	}
	longest := func(a, b string) int { return len(b) - len(a) }
	tell := func(s string) string { return s[1:] }
	if l := terms.Found(slices.Values([]string{"ab", "bb", "cde"}), tell, longest); !slices.Equal(l, []string{"de", "b"}) {
		t.Error(l)
	}
}

func TestAsk(t *testing.T) {
	for i, x := range []struct {
		cases         int
		left          []int
		index, fewest int
	}{
		{5, nil, -1, 5}, {5, []int{5, 5}, -1, 5}, {5, []int{5, 4, 3, 3, 4}, 2, 3}, {5, []int{4}, 0, 4}, {2, []int{2, 1}, 1, 1}, {5, []int{6, 9}, -1, 5},
	} {
		if index, fewest := terms.Ask(x.cases, x.left); index != x.index || fewest != x.fewest {
			t.Errorf("%d: %d, %d", i, index, fewest)
		}
	}
}

func TestGather(t *testing.T) {
	// As many times as the number says, after the others where it is small.
	times := func(n int) []int {
		for range 10 - n {
			runtime.Gosched()
		}
		return slices.Repeat([]int{n}, n)
	}
	for i, x := range []struct{ things, want []int }{
		{nil, nil}, {[]int{0}, nil}, {[]int{0, 0, 0}, nil}, {[]int{1}, []int{1}}, {[]int{2, 0, 3, 1}, []int{2, 2, 3, 3, 3, 1}}, {[]int{0, 1, 2, 1, 0}, []int{1, 2, 2, 1}},
	} {
		for range 20 {
			if l := terms.Gather(x.things, times); !slices.Equal(l, x.want) {
				t.Fatalf("%d: %v", i, l)
			}
		}
	}
}

func TestSift(t *testing.T) {
	// What is even, and half of it, after the others where it is small.
	half := func(n int) (int, bool) {
		for range 10 - n {
			runtime.Gosched()
		}
		return n / 2, n%2 == 0
	}
	for i, x := range []struct{ things, want []int }{
		{nil, nil}, {[]int{1}, nil}, {[]int{4}, []int{2}}, {[]int{2, 0, 3, 1, 4, 2}, []int{0, 1, 1, 2}}, {[]int{7, 5, 8}, []int{4}},
	} {
		for range 20 {
			l := terms.Sift(x.things, half)
			slices.Sort(l)
			if !slices.Equal(l, x.want) {
				t.Fatalf("%d: %v", i, l)
			}
		}
	}
}

// wrongAt returns the number of the line with which reading panics, or -1 if it does not.
func wrongAt(text string, read func(terms.Line)) (number int) {
	defer func() {
		if wrong, ok := recover().(terms.WrongLine); ok {
			number = wrong.Number
		}
	}()
	terms.EachLine(text, read)
	return -1
}

func TestEachLine(t *testing.T) {
	for text, x := range map[string]struct {
		line int
		read []string
	}{
		"": {0, nil}, "\n": {1, nil}, "a b\nc": {-1, []string{"a", "c"}}, "a b\nc\n": {-1, []string{"a", "c"}},
		"a\n\nc\n": {2, []string{"a"}}, "a\nb  b\n": {2, []string{"a"}}, "a\nb\nwrong x\nc\n": {3, []string{"a", "b", "wrong"}},
	} {
		var read []string
		n := wrongAt(text, func(l terms.Line) {
			read = append(read, l.Word())
			l.Want(l.Word() != "wrong")
		})
		if n != x.line || !slices.Equal(read, x.read) {
			t.Errorf("%q: %d, %q", text, n, read)
		}
	}
}

func TestEachInOrderAndReadInOrder(t *testing.T) {
	kinds := []string{"a", "b", "c"}
	read := func(l terms.Line) int { return slices.Index(kinds, l.Word()) }
	wrongIn := func(text string) (number int) {
		defer func() {
			if wrong, ok := recover().(terms.WrongLine); ok {
				number = wrong.Number
			}
		}()
		terms.EachInOrder(text, read)
		return -1
	}
	errorOf := func(text string) int {
		err := terms.ReadInOrder(text, func(fields []string) (int, bool) { return slices.Index(kinds, fields[0]), fields[0] != "wrong" })
		var wrong terms.WrongLine
		if errors.As(err, &wrong) {
			return wrong.Number
		}
		return -1
	}
	for text, want := range map[string]int{
		"a": -1, "a\nb\n": -1, "a\nb\nb\nc\nc": -1, "a\nc\n": -1, "": 0, "\n": 1, "b\n": 1, "c\na\n": 1, "a\na\n": 2, "a\nb\na\n": 3, "a\nc\nb\n": 3, "a\nb\nc\nb\na\n": 4, "a\n\nb\n": 2,
	} {
		if n := wrongIn(text); n != want {
			t.Errorf("EachInOrder: %q: %d", text, n)
		}
		if n := errorOf(text); n != want {
			t.Errorf("ReadInOrder: %q: %d", text, n)
		}
	}
	if n := errorOf("a\nb\nwrong x\na\n"); n != 3 {
		t.Error(n)
	}
}

func TestReadAndParse(t *testing.T) {
	read := func(text string) ([]string, error) {
		var words []string
		err := terms.ReadLines(text, func(fields []string) bool {
			words = append(words, fields[0])
			return fields[0] != "wrong"
		})
		return words, err
	}
	parse := func(text string) []string {
		var words []string
		terms.EachLine(text, func(l terms.Line) {
			l.Want(l.Word() != "wrong")
			words = append(words, l.Word())
		})
		return words
	}
	check := func(words []string) api.Hitch { return terms.HitchUnless(!slices.Contains(words, "twice"), api.Double) }
	for text, x := range map[string]struct {
		words []string
		line  int
		h     api.Hitch
	}{
		"a b\nc\n": {[]string{"a", "c"}, 0, api.Smooth}, "": {nil, 0, api.Shape}, "a\nwrong\ntwice\n": {nil, 2, api.Shape}, "twice\nwrong": {nil, 2, api.Shape}, "a\ntwice": {nil, 0, api.Double},
		strings.Repeat("a", api.MaxText): {[]string{strings.Repeat("a", api.MaxText)}, 0, api.Smooth}, strings.Repeat("a", api.MaxText+1): {nil, 0, api.Number}, strings.Repeat("\n", api.MaxText+1): {nil, 0, api.Number},
	} {
		if l, line, h := terms.Read(text, read, check); !slices.Equal(l, x.words) || line != x.line || h != x.h {
			t.Errorf("Read: %.20q: %.40q, %d, %v", text, l, line, h)
		}
		if l, line, h := terms.Parse(text, parse, check); !slices.Equal(l, x.words) || line != x.line || h != x.h {
			t.Errorf("Parse: %.20q: %.40q, %d, %v", text, l, line, h)
		}
	}
}

func TestLine(t *testing.T) {
	var fields []string
	var number int
	var r api.Reach
	var is, not bool
	var list, words []int
	if n := wrongAt("a\nb 7 -3:5 yes no 4,1\n", func(l terms.Line) {
		if l.Word() != "b" {
			return
		}
		fields = l.Fields(5)
		number, r = l.Number(fields[0]), l.Reach(fields[1])
		is, not = l.Either(fields[2], "yes", "no"), l.Either(fields[3], "yes", "no")
		list = l.List(fields[4])
		words = []int{l.OneOf("x", "x", "y", "z"), l.OneOf("z", "x", "y", "z"), l.OneOf("y", "y")}
	}); n != -1 {
		t.Fatal(n)
	}
	if !slices.Equal(fields, []string{"7", "-3:5", "yes", "no", "4,1"}) || number != 7 || r != reach(-3, 5) || !is || not || !slices.Equal(list, []int{4, 1}) || !slices.Equal(words, []int{0, 2, 0}) {
		t.Errorf("%q, %d, %v, %v, %v, %v, %v", fields, number, r, is, not, list, words)
	}
	for i, read := range []func(l terms.Line){
		func(l terms.Line) { l.Fields(3) },
		func(l terms.Line) { l.Fields(5) },
		func(l terms.Line) { l.Number("7:8") },
		func(l terms.Line) { l.Reach("5:5") },
		func(l terms.Line) { l.List("5,") },
		func(l terms.Line) { l.Either("Yes", "yes", "no") },
		func(l terms.Line) { l.Either("", "yes", "no") },
		func(l terms.Line) { l.OneOf("x", "y", "z") },
		func(l terms.Line) { l.OneOf("x") },
		func(l terms.Line) { panic(l.Wrong()) },
	} {
		if n := wrongAt("a\nb 7 -3:5 yes no\n", func(l terms.Line) {
			if l.Word() == "b" {
				read(l)
			}
		}); n != 2 {
			t.Errorf("%d: line %d", i, n)
		}
	}
}

func TestReadLine(t *testing.T) {
	read := func(l terms.Line) []string {
		l.Want(l.Word() == "a")
		return l.Fields(1)
	}
	for line, want := range map[string][]string{
		"a b": {"b"}, "a \x00": {"\x00"}, "a " + strings.Repeat("b", api.MaxText): {strings.Repeat("b", api.MaxText)},
		"": nil, "a": nil, "b b": nil, "a b c": nil, "a  b": nil, " a b": nil, "a b\n": nil, "a b\na b": nil, "\na b": nil, "\n": nil,
	} {
		wantHitch := terms.HitchUnless(want != nil, api.Shape)
		if l, h := terms.ReadLine(line, read); !slices.Equal(l, want) || h != wantHitch {
			t.Errorf("%.20q: %.20q, %v", line, l, h)
		}
	}
}

func TestOneOf(t *testing.T) {
	for word, want := range map[string]int{"n": 0, "ne": 1, "e": 2} {
		if i, ok := terms.OneOf(word, "n", "ne", "e"); i != want || !ok {
			t.Errorf("%q: %d, %v", word, i, ok)
		}
	}
	for _, word := range []string{"", "N", "nee", "n ", "0"} {
		if i, ok := terms.OneOf(word, "n", "ne", "e"); i != 0 || ok {
			t.Errorf("%q: %d, %v", word, i, ok)
		}
	}
	if i, ok := terms.OneOf("n"); i != 0 || ok {
		t.Errorf("%d, %v", i, ok)
	}
}

func TestPrintEither(t *testing.T) {
	for is, want := range map[bool]string{true: "yes", false: "no"} {
		if s := terms.PrintEither(is, "yes", "no"); s != want {
			t.Errorf("%v: %q", is, s)
		}
	}
}

func TestReadLines(t *testing.T) {
	for text, x := range map[string]struct {
		line int
		read []string
	}{
		"": {0, nil}, "\n": {1, nil}, "a b\nc": {-1, []string{"a", "b", "c"}}, "a b\nc\n": {-1, []string{"a", "b", "c"}},
		"a\n\nc\n": {2, []string{"a"}}, "a\nb  b\n": {2, []string{"a"}}, "a\nb\nwrong x\nc\n": {3, []string{"a", "b", "wrong", "x"}},
	} {
		var read []string
		err := terms.ReadLines(text, func(fields []string) bool {
			read = append(read, fields...)
			return fields[0] != "wrong"
		})
		var wrong terms.WrongLine
		if is := errors.As(err, &wrong); is != (x.line >= 0) || is && wrong.Number != x.line || !slices.Equal(read, x.read) {
			t.Errorf("%q: %v, %q", text, err, read)
		}
	}
	if s := (terms.WrongLine{Number: 7}).Error(); s != "wrong line 7" {
		t.Error(s)
	}
}

func TestIsReach(t *testing.T) {
	for r, want := range map[api.Reach]bool{
		reach(-3, 3): true, reach(0, 0): true, reach(3, 3): true, reach(-3, -3): true,
		reach(-4, 0): false, reach(0, 4): false, reach(1, 0): false, reach(4, 4): false, reach(math.MinInt, math.MaxInt): false,
	} {
		if is := terms.IsReach(r, -3, 3); is != want {
			t.Errorf("%v: %v", r, is)
		}
	}
}

func TestIsNarrow(t *testing.T) {
	for r, want := range map[api.Reach]bool{
		reach(-3, -1): true, reach(1, 3): true, reach(0, 0): true, reach(-1, 1): true, reach(2, 3): true,
		reach(-3, 0): false, reach(0, 3): false, reach(-4, -3): false, reach(3, 4): false, reach(1, 0): false, reach(4, 4): false, reach(math.MinInt, math.MaxInt): false, reach(math.MaxInt, math.MinInt): false,
	} {
		if is := terms.IsNarrow(r, -3, 3, 3); is != want {
			t.Errorf("%v: %v", r, is)
		}
	}
	if terms.IsNarrow(reach(0, 1), 0, 9, 1) || !terms.IsNarrow(reach(1, 1), 0, 9, 1) {
		t.Error("a reach of one number")
	}
}

func TestCommon(t *testing.T) {
	for _, x := range []struct {
		a, b, want api.Reach
		ok         bool
	}{
		{reach(0, 5), reach(3, 9), reach(3, 5), true},
		{reach(0, 9), reach(3, 5), reach(3, 5), true},
		{reach(0, 3), reach(3, 5), reach(3, 3), true},
		{reach(0, 2), reach(3, 5), reach(0, 0), false},
	} {
		if r, ok := terms.Common(x.a, x.b); r != x.want || ok != x.ok {
			t.Errorf("%v and %v: %v, %v", x.a, x.b, r, ok)
		}
		if r, ok := terms.Common(x.b, x.a); r != x.want || ok != x.ok {
			t.Errorf("%v and %v: %v, %v", x.b, x.a, r, ok)
		}
	}
}

func TestLines(t *testing.T) {
	for text, want := range map[string][]string{
		"": nil, "\n": {""}, "a": {"a"}, "a\n": {"a"}, "a\n\n": {"a", ""}, "\na": {"", "a"}, "a b\nc\r\n": {"a b", "c\r"},
	} {
		if l := terms.Lines(text); !slices.Equal(l, want) {
			t.Errorf("%q: %q", text, l)
		}
	}
}

func TestFields(t *testing.T) {
	for line, want := range map[string][]string{
		"a": {"a"}, "a b c": {"a", "b", "c"}, "a\tb": {"a\tb"}, "": nil, " ": nil, " a": nil, "a ": nil, "a  b": nil,
	} {
		if l, ok := terms.Fields(line); !slices.Equal(l, want) || ok != (want != nil) {
			t.Errorf("%q: %q, %v", line, l, ok)
		}
	}
	if s := terms.PrintLine("a", "b", "c"); s != "a b c\n" {
		t.Errorf("%q", s)
	}
	if s := terms.PrintFields("a", "b", "c"); s != "a b c" {
		t.Errorf("%q", s)
	}
}

func TestPrintEach(t *testing.T) {
	print := func(n int) string { return terms.PrintLine("n", terms.PrintNumber(n)) }
	for want, numbers := range map[string][]int{"": nil, "n 5\n": {5}, "n 5\nn -1\nn 5\n": {5, -1, 5}} {
		if s := terms.PrintEach(numbers, print); s != want {
			t.Errorf("%v: %q", numbers, s)
		}
	}
}

func TestNumber(t *testing.T) {
	for n, field := range map[int]string{0: "0", 7: "7", -7: "-7", 10: "10", 999999999: "999999999", -999999999: "-999999999"} {
		if x, ok := terms.Number(field); x != n || !ok {
			t.Errorf("%q: %d, %v", field, x, ok)
		}
		if s := terms.PrintNumber(n); s != field {
			t.Errorf("%d: %q", n, s)
		}
	}
	for _, field := range []string{"", "-", "-0", "00", "01", "-01", "+1", "--1", "1-", "1.0", "1e1", "0x1", "1_0", " 1", "1000000000", "-1000000000", "18446744073709551617", "/", ":", "٣"} {
		if x, ok := terms.Number(field); x != 0 || ok {
			t.Errorf("%q: %d, %v", field, x, ok)
		}
	}
}

func TestNumbers(t *testing.T) {
	if l, ok := terms.Numbers([]string{"1", "-2"}, 2); !slices.Equal(l, []int{1, -2}) || !ok {
		t.Errorf("%v, %v", l, ok)
	}
	for _, fields := range [][]string{nil, {"1"}, {"1", "2", "3"}, {"1", "x"}} {
		if l, ok := terms.Numbers(fields, 2); l != nil || ok {
			t.Errorf("%q: %v, %v", fields, l, ok)
		}
	}
}

func TestList(t *testing.T) {
	for field, want := range map[string][]int{"-": nil, "5": {5}, "-5": {-5}, "4,1,6": {4, 1, 6}, "0,-3,0": {0, -3, 0}} {
		if l, ok := terms.List(field); !slices.Equal(l, want) || !ok {
			t.Errorf("%q: %v, %v", field, l, ok)
		}
		if s := terms.PrintList(want); s != field {
			t.Errorf("%v: %q", want, s)
		}
	}
	if s := terms.PrintList([]int{}); s != "-" {
		t.Errorf("%q", s)
	}
	for _, field := range []string{"", ",", "5,", ",5", "4,,6", "-,5", "5,-", "--", "4, 6", "4;6", "4:6", "04", "4,x", "1000000000"} {
		if l, ok := terms.List(field); l != nil || ok {
			t.Errorf("%q: %v, %v", field, l, ok)
		}
	}
}

func TestReach(t *testing.T) {
	for field, want := range map[string]api.Reach{"5": reach(5, 5), "5:7": reach(5, 7), "-3:0": reach(-3, 0)} {
		if r, ok := terms.Reach(field); r != want || !ok {
			t.Errorf("%q: %v, %v", field, r, ok)
		}
		if s := terms.PrintReach(want); s != field {
			t.Errorf("%v: %q", want, s)
		}
	}
	if r, ok := terms.Reach("7:5"); r != reach(7, 5) || !ok {
		t.Errorf("%v, %v", r, ok)
	}
	for _, field := range []string{"", ":", "5:", ":5", "5:5", "0:-0", "1:2:3", "5-7", "5: 7", "x:1", "1:x"} {
		if r, ok := terms.Reach(field); r != reach(0, 0) || ok {
			t.Errorf("%q: %v, %v", field, r, ok)
		}
	}
}

func TestReaches(t *testing.T) {
	for _, x := range []struct {
		fields []string
		want   []api.Reach
		ok     bool
	}{
		{nil, nil, true}, {[]string{"5"}, []api.Reach{reach(5, 5)}, true}, {[]string{"5:7", "-3", "7:5"}, []api.Reach{reach(5, 7), reach(-3, -3), reach(7, 5)}, true}, {[]string{"5:7", "x"}, nil, false}, {[]string{"5:5", "7"}, nil, false}, {[]string{""}, nil, false},
	} {
		if l, ok := terms.Reaches(x.fields); !slices.Equal(l, x.want) || ok != x.ok {
			t.Errorf("%q: %v, %v", x.fields, l, ok)
		}
	}
}
