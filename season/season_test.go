package season_test

import (
	"fmt"
	"math"
	"slices"
	"strings"
	"testing"

	"lagan/api"
	"lagan/season"
)

// wrongBook has a part with a hitch.
type wrongBook struct {
	change func(b *api.SeasonBook)
	h      api.Hitch
}

// wrongBooks has one for each part, in order.
func wrongBooks() []wrongBook {
	return []wrongBook{
		{func(b *api.SeasonBook) { b.Chart.Witnesses[0].Compass = 2 }, api.Missing},
		{func(b *api.SeasonBook) { b.Drag.Ground[0] = "ss" }, api.Shape},
		{func(b *api.SeasonBook) { b.Slack.Turns = nil }, api.Number},
		{func(b *api.SeasonBook) { b.Bell.Sent = []int{2, 1} }, api.Crossed},
		{func(b *api.SeasonBook) { b.Stint.Men[1].Name = "ann" }, api.Double},
		{func(b *api.SeasonBook) { b.Hull.Pieces[0].Name = "" }, api.Label},
		{func(b *api.SeasonBook) { b.Tackle.Winch = -1 }, api.Bounds},
		{func(b *api.SeasonBook) { b.Mooring.Anchors[0].At = api.MooringPlace{} }, api.Crossed},
		{func(b *api.SeasonBook) { b.Finds.Finds[0] = "A" }, api.Shape},
		{func(b *api.SeasonBook) { b.Award.Men[2].Name = "bo" }, api.Double},
	}
}

// P10.1
func TestCheckBook(t *testing.T) {
	if h := season.CheckBook(bookY()); h != smooth {
		t.Error(h)
	}
	wrong := wrongBooks()
	for i, x := range wrong {
		if h := season.CheckBook(changed(x.change)); h != x.h {
			t.Errorf("%s: %v, want %v", partWords()[i], h, x.h)
		}
		// The first part with a hitch decides.
		for _, later := range wrong[i+1:] {
			both := changed(x.change)
			later.change(&both)
			if h := season.CheckBook(both); h != x.h {
				t.Errorf("%s: %v, want %v", partWords()[i], h, x.h)
			}
		}
	}
	// A book without a case has no hitch.
	if h := season.CheckBook(chosen([all]int{3, 4, 3, 4, 3, 4, 4, 3, 3, 1})); h != smooth {
		t.Error(h)
	}
}

// P10.1: hitches of awards.
func TestAward(t *testing.T) {
	men := func(men ...api.SeasonMan) func(a *api.SeasonAward) {
		return func(a *api.SeasonAward) { a.Men = men }
	}
	value := func(least, most int) func(a *api.SeasonAward) {
		return func(a *api.SeasonAward) { a.Value = reach(least, most) }
	}
	parts := func(crown, owner int) func(a *api.SeasonAward) {
		return func(a *api.SeasonAward) { a.Crown, a.Owner = crown, owner }
	}
	for i, x := range []struct {
		change func(a *api.SeasonAward)
		h      api.Hitch
	}{
		{value(0, 0), smooth}, {value(0, 4), smooth}, {value(99995, 99999), smooth}, {value(99999, 99999), smooth},
		{value(-1, 0), api.Bounds}, {value(99996, 100000), api.Bounds}, {value(100000, 100000), api.Bounds}, {value(0, 5), api.Bounds}, {value(5, 4), api.Bounds}, {value(math.MinInt, math.MaxInt), api.Bounds}, {value(math.MaxInt, math.MinInt), api.Bounds},
		{parts(0, 0), smooth}, {parts(100, 100), smooth}, {parts(-1, 0), api.Bounds}, {parts(101, 0), api.Bounds}, {parts(0, -1), api.Bounds}, {parts(0, 101), api.Bounds},
		{men(), smooth}, {men(man("a", 0), man("b", 9), man("c", 9), man("abcdefghijkl", 9)), smooth}, {men(man("a", 1), man("b", 1), man("c", 1), man("d", 1), man("e", 1)), api.Number},
		{men(man("", 1)), api.Label}, {men(man("A", 1)), api.Label}, {men(man("1a", 1)), api.Label}, {men(man("a b", 1)), api.Label}, {men(man("abcdefghijklm", 1)), api.Label}, {men(man("a9", 1)), smooth},
		{men(man("a", 1), man("a", 1)), api.Double}, {men(man("a", 1), man("b", 1), man("a", 1)), api.Double}, {men(man("a", -1)), api.Bounds}, {men(man("a", 10)), api.Bounds}, {men(man("a", math.MaxInt)), api.Bounds},
		// the order of hitches
		{men(man("a", 10), man("", 1)), api.Bounds}, {men(man("", 10), man("a", 10)), api.Label}, {men(man("a", 1), man("a", 10)), api.Double}, {men(man("", 1), man("", 1)), api.Label},
		{men(man("", 1), man("", 1), man("", 1), man("", 1), man("", 1)), api.Number},
		{func(a *api.SeasonAward) { a.Crown, a.Men = 101, make([]api.SeasonMan, 5) }, api.Bounds},
		{func(a *api.SeasonAward) { a.Value, a.Men = one(-1), make([]api.SeasonMan, 1) }, api.Bounds},
	} {
		a := awards()[0]
		x.change(&a)
		if h := season.CheckBook(awarded(a)); h != x.h {
			t.Errorf("%d: %v, want %v", i, h, x.h)
		}
		if h := modelAwardHitch(a); h != x.h {
			t.Errorf("%d: the model: %v, want %v", i, h, x.h)
		}
	}
}

// P10.1
func TestSum(t *testing.T) {
	for s, want := range map[string]int{"": 1, "\n": 41, "\x00": 31, "a": 128, "ab": 4066, "abc": 6469, "\xff": 286} {
		if n, h := season.Sum(s); n != want || h != smooth {
			t.Errorf("%q: %d, %v, want %d", s, n, h, want)
		}
	}
	for _, s := range []string{strings.Repeat("\xff", 40000), strings.Repeat("s\n", 20000), bookText(bookY())} {
		if n, h := season.Sum(s); n != modelSum(s) || h != smooth {
			t.Errorf("%.20q: %d, %v, want %d", s, n, h, modelSum(s))
		}
	}
	if n, h := season.Sum(strings.Repeat("\x00", 40001)); n != 0 || h != api.Number {
		t.Error(n, h)
	}
}

// bookText returns the file of a book, by the model.
func bookText(b api.SeasonBook) string { return fileOf(textsOf(b)) }

// P10.1
func TestWrite(t *testing.T) {
	for i := range 4 {
		b := chosen([all]int{i, i, i, i, i, i, i, i, i, i})
		if s, h := season.Write(b); s != bookText(b) || h != smooth {
			t.Errorf("%q, %v, want %q", s, h, bookText(b))
		}
	}
	first := "begin bearing\nchart 3 3 1\ncompass 0\ncompass 0:1\nwitness -1 0 e 0 maybe\nwitness 0 3 s 1 maybe\nwitness 2 -1 n 0 maybe\nend bearing "
	last := "begin award\naward 100:101 10 20\nman ann 2\nman bo 1\nman cy 1\nend award "
	if s, _ := season.Write(bookY()); !strings.HasPrefix(s, first) || !strings.Contains(s, "\n"+last) || !strings.HasSuffix(s, "\n") {
		t.Errorf("%q", s)
	}
}

// wrongFile is a file that has a hitch in a line.
type wrongFile struct {
	text string
	line int
	h    api.Hitch
}

// with returns the file of Y with another text of a part.
func with(part int, text string) string {
	texts := textsOf(bookY())
	texts[part] = text
	return fileOf(texts)
}

// replaced returns the file of Y in which something stands in place of something else.
func replaced(old, new string) string { return strings.Replace(bookText(bookY()), old, new, 1) }

// sumLine returns the line with which the part of a word ends, with another sum.
func sumLine(word, sum string) string {
	text := bookText(bookY())
	_, behind, _ := strings.Cut(text, "end "+word+" ")
	own, _, _ := strings.Cut(behind, "\n")
	return strings.Replace(text, "end "+word+" "+own+"\n", "end "+word+sum+"\n", 1)
}

// wrongFiles has files of which each kind of wrong lines is a line.
func wrongFiles() []wrongFile {
	whole := bookText(bookY())
	lines := strings.Count(whole, "\n")
	award, sounds := "award 100:101 10 20\nman ann 2\n", "begin drag\n"
	return []wrongFile{
		// its begin
		{"", 1, api.Shape}, {"\n", 1, api.Shape}, {"begin drag\n", 1, api.Shape}, {"begin", 1, api.Shape}, {"begin bearing ", 1, api.Shape}, {"begin  bearing\n", 1, api.Shape}, {" begin bearing\n", 1, api.Shape}, {"begin bearing\r\n", 1, api.Shape}, {"Begin bearing\n", 1, api.Shape},
		{replaced(sounds, ""), 9, api.Shape}, {replaced(sounds, "begin slack\n"), 9, api.Shape}, {replaced(sounds, "\nbegin drag\n"), 9, api.Shape}, {whole[:strings.Index(whole, sounds)], 9, api.Shape}, {replaced("begin award\n", ""), 76, api.Shape}, {whole[:strings.Index(whole, "begin award")], 76, api.Shape},
		// no end
		{"begin bearing", 2, api.Shape}, {"begin bearing\n", 2, api.Shape}, {"begin bearing\nchart 3 3 1\n", 3, api.Shape}, {"begin bearing\nchart 3 3 1\n end bearing 1\nends\nEnd bearing 1\nend\tbearing 1", 7, api.Shape}, {whole[:strings.Index(whole, "end award")], 81, api.Shape},
		// the form of its end
		{"begin bearing\nend\n", 2, api.Shape}, {"begin bearing\nend bearing\n", 2, api.Shape}, {"begin bearing\nend bearing x\n", 2, api.Shape}, {"begin bearing\nend bearing 01\n", 2, api.Shape}, {"begin bearing\nend bearing 1 1\n", 2, api.Shape}, {"begin bearing\nend bearing 1 \n", 2, api.Shape}, {"begin bearing\nend  bearing 1\n", 2, api.Shape}, {"begin bearing\nend \n", 2, api.Shape}, {"begin bearing\nend drag 1\n", 2, api.Shape}, {"begin bearing\nend drag 1\nend bearing 1\n", 2, api.Shape}, {"begin bearing\nend bearing 1:2\n", 2, api.Shape}, {"begin bearing\nend bearing 1000000000\n", 2, api.Shape},
		{sumLine("bell", ""), 29, api.Shape}, {replaced("end bearing ", "end drag "), 8, api.Shape},
		// its sum
		{"begin bearing\nend bearing 2\n", 2, api.Adrift}, {"begin bearing\nend bearing -1\n", 2, api.Adrift}, {"begin bearing\nend bearing 9974\n", 2, api.Adrift}, {replaced("witness -1", "witness -2"), 8, api.Adrift}, {replaced("man cy 1", "man cy 2"), 81, api.Adrift}, {replaced("chart 3 3 1\n", ""), 7, api.Adrift}, {sumLine("award", " 0"), 81, api.Adrift}, {replaced("chart 3", "chart  3"), 8, api.Adrift},
		// what Parse of a chapter returns
		{"begin bearing\nend bearing 1\n", 1, api.Shape}, {with(0, "chart 3 3 1\ncompass x\n"), 3, api.Shape}, {with(0, "x\n"), 2, api.Shape}, {with(0, "\n"), 2, api.Shape}, {with(0, "chart 1 3 1\ncompass 0\n"), 1, api.Bounds}, {with(1, "drag 3 3 1\nground sss\n"), 9, api.Number}, {with(1, "drag 3 3 1\nrock 0 0\nground sss\n"), 12, api.Shape}, {with(8, "finds 1\nfind a\n"), 66, api.Number}, {with(8, ""), 66, api.Shape},
		// the award
		{with(9, ""), 76, api.Shape}, {with(9, "award 100 10\n"), 77, api.Shape}, {with(9, "award 100 10 20 1\n"), 77, api.Shape}, {with(9, "award 100:100 10 20\n"), 77, api.Shape}, {with(9, "award x 10 20\n"), 77, api.Shape}, {with(9, "award 100 1x 20\n"), 77, api.Shape}, {with(9, "award 100 10 +20\n"), 77, api.Shape}, {with(9, "man ann 2\n"), 77, api.Shape}, {with(9, "award\n"), 77, api.Shape}, {with(9, "\n"), 77, api.Shape}, {with(9, "Award 100 10 20\n"), 77, api.Shape},
		{with(9, award+"man bo\n"), 79, api.Shape}, {with(9, award+"man bo 1 1\n"), 79, api.Shape}, {with(9, award+"man bo x\n"), 79, api.Shape}, {with(9, award+"men bo 1\n"), 79, api.Shape}, {with(9, award+award), 79, api.Shape}, {with(9, award+"man  1\n"), 79, api.Shape},
		{with(9, "award 100 101 20\n"), 76, api.Bounds}, {with(9, "award 7:5 10 20\n"), 76, api.Bounds}, {with(9, award+"man Bo 1\n"), 76, api.Label}, {with(9, award+"man ann 1\n"), 76, api.Double}, {with(9, award+"man bo -1\n"), 76, api.Bounds}, {with(9, award+"man a 1\nman b 1\nman c 1\nman d 1\n"), 76, api.Number}, {with(9, award+"man Bo 1\nman x\n"), 80, api.Shape},
		// behind the last part
		{whole + "\n", lines + 1, api.Shape}, {whole + "begin award\n", lines + 1, api.Shape}, {whole + "x", lines + 1, api.Shape},
		// too long
		{whole + strings.Repeat("s", 40001-len(whole)), 0, api.Number}, {strings.Repeat("\n", 40001), 0, api.Number},
	}
}

// P10.1
func TestRead(t *testing.T) {
	whole := bookText(bookY())
	for _, s := range []string{whole, strings.TrimSuffix(whole, "\n")} {
		if b, line, h := season.Read(s); !equal(b, bookY()) || line != 0 || h != smooth {
			t.Errorf("%q: %v, %d, %v", s, b, line, h)
		}
	}
	bare := awarded(api.SeasonAward{})
	if b, line, h := season.Read(bookText(bare)); !equal(b, bare) || line != 0 || h != smooth {
		t.Errorf("%v, %d, %v", b, line, h)
	}
	for _, x := range wrongFiles() {
		if b, line, h := season.Read(x.text); !isZero(b) || line != x.line || h != x.h {
			t.Errorf("%q: %v, %d, %v, want %d, %v", x.text, b, line, h, x.line, x.h)
		}
		if _, line, h := modelRead(x.text); (line != x.line || h != x.h) && x.h != api.Number {
			t.Errorf("%q: the model: %d, %v, want %d, %v", x.text, line, h, x.line, x.h)
		}
	}
	long := strings.Repeat("begin bearing\n", 40000/14)
	if b, line, h := season.Read(long + strings.Repeat("\n", 40000-len(long))); !isZero(b) || line != 40000/14+40000-len(long)+1 || h != api.Shape {
		t.Error(line, h)
	}
}

// P10.1
func TestDiffer(t *testing.T) {
	other := chosen([all]int{1, 1, 1, 1, 1, 1, 1, 1, 1, 1})
	if l, h := season.Differ(bookY(), bookY()); len(l) > 0 || h != smooth {
		t.Error(l, h)
	}
	if l, h := season.Differ(bookY(), other); !slices.Equal(l, []int{0, 1, 2, 3, 4, 5, 6, 7, 8, 9}) || h != smooth {
		t.Error(l, h)
	}
	for part := range all {
		var choice [all]int
		choice[part] = 1
		if l, h := season.Differ(bookY(), chosen(choice)); !slices.Equal(l, []int{part}) || h != smooth {
			t.Error(part, l, h)
		}
	}
	for i, change := range []func(b *api.SeasonBook){
		func(b *api.SeasonBook) { b.Chart.Witnesses[1].Sure = true },
		func(b *api.SeasonBook) { b.Drag.Leads = []api.DragLead{{}} },
		func(b *api.SeasonBook) { b.Slack.Watches[0].Slack = false },
		func(b *api.SeasonBook) { b.Bell.Men[0].Breath.Most = 5 },
		func(b *api.SeasonBook) { b.Stint.Dives[2].Ticks = 31 },
		func(b *api.SeasonBook) { b.Hull.Pieces[2].On = nil },
		func(b *api.SeasonBook) { b.Tackle.Gears[1] = []int{2, 0} },
		func(b *api.SeasonBook) { b.Mooring.Winds[1].Side = 5 },
		func(b *api.SeasonBook) { b.Finds.Notes[0].Same = false },
		func(b *api.SeasonBook) { b.Award.Men[0], b.Award.Men[1] = b.Award.Men[1], b.Award.Men[0] },
	} {
		for range 2 {
			if l, h := season.Differ(changed(change), bookY()); !slices.Equal(l, []int{i}) || h != smooth {
				t.Error(i, l, h)
			}
		}
	}
	// The hitch of the first book comes first.
	x, y := changed(wrongBooks()[8].change), changed(wrongBooks()[2].change)
	for _, z := range []struct {
		a, b api.SeasonBook
		h    api.Hitch
	}{{x, bookY(), api.Shape}, {bookY(), x, api.Shape}, {x, y, api.Shape}, {y, x, api.Number}} {
		if l, h := season.Differ(z.a, z.b); len(l) > 0 || h != z.h {
			t.Error(l, h, z.h)
		}
	}
}

// P10.2
func TestCases(t *testing.T) {
	for _, x := range []struct {
		choice [all]int
		want   []int
	}{
		{[all]int{}, []int{14, 16, 3, 4, 3, 2, 9, 6, 3}},
		{[all]int{1, 1, 1, 1, 1, 1, 1, 1, 1, 1}, []int{4, 2, 1, 4, 2, 1, 6, 1, 1}},
		{[all]int{3, 4, 3, 4, 3, 4, 4, 3, 3, 3}, []int{0, 0, 0, 0, 0, 0, 0, 0, 0}},
	} {
		if l, h := season.Cases(chosen(x.choice)); !slices.Equal(l, x.want) || h != smooth {
			t.Errorf("%v: %v, %v, want %v", x.choice, l, h, x.want)
		}
	}
}

// P10.2
func TestShares(t *testing.T) {
	three := awards()[0].Men
	for i, x := range []struct {
		crown, owner int
		men          []api.SeasonMan
		value        int
		want         []int
		h            api.Hitch
	}{
		{10, 20, three, 100, []int{10, 18, 36, 18, 18}, smooth}, {10, 20, three, 101, []int{10, 18, 37, 18, 18}, smooth}, {10, 20, three, 103, []int{10, 18, 38, 19, 18}, smooth},
		{10, 20, three, 0, []int{0, 0, 0, 0, 0}, smooth}, {10, 20, three, 99999, []int{9999, 18000, 36000, 18000, 18000}, smooth}, {10, 20, three, -1, nil, api.Bounds}, {10, 20, three, 100000, nil, api.Bounds}, {10, 20, three, math.MinInt, nil, api.Bounds}, {10, 20, three, math.MaxInt, nil, api.Bounds},
		{10, 20, nil, 100, []int{10, 90}, smooth}, {10, 20, []api.SeasonMan{man("a", 0), man("b", 0)}, 100, []int{10, 90, 0, 0}, smooth}, {100, 20, []api.SeasonMan{man("a", 1)}, 7, []int{7, 0, 0}, smooth}, {0, 100, []api.SeasonMan{man("a", 1)}, 7, []int{0, 7, 0}, smooth}, {0, 0, []api.SeasonMan{man("a", 1)}, 7, []int{0, 0, 7}, smooth},
		{0, 0, []api.SeasonMan{man("a", 0), man("b", 1), man("c", 1)}, 3, []int{0, 0, 0, 2, 1}, smooth}, {0, 0, []api.SeasonMan{man("a", 1), man("b", 2)}, 1, []int{0, 0, 1, 0}, smooth}, {0, 0, []api.SeasonMan{man("a", 1), man("b", 0), man("c", 1), man("d", 1)}, 5, []int{0, 0, 2, 0, 2, 1}, smooth}, {33, 50, []api.SeasonMan{man("a", 1)}, 5, []int{1, 2, 2}, smooth},
	} {
		a := api.SeasonAward{Value: one(5), Crown: x.crown, Owner: x.owner, Men: x.men}
		if l, h := season.Shares(awarded(a), x.value); !slices.Equal(l, x.want) || h != x.h {
			t.Errorf("%d: %v, %v, want %v", i, l, h, x.want)
		}
	}
}

// P10.2
func TestShare(t *testing.T) {
	for i, x := range []struct {
		award int
		man   int
		want  api.Reach
		h     api.Hitch
	}{
		{0, 0, reach(36, 37), smooth}, {0, 1, one(18), smooth}, {0, 2, one(18), smooth}, {0, 3, one(0), api.Missing}, {0, -1, one(0), api.Missing}, {0, math.MinInt, one(0), api.Missing}, {0, math.MaxInt, one(0), api.Missing}, {1, 0, one(0), api.Missing}, {4, 0, one(0), smooth},
		// a man can have less of more
		{3, 0, one(2), smooth}, {3, 1, reach(1, 2), smooth}, {3, 2, reach(4, 5), smooth}, {3, 3, reach(4, 5), smooth},
	} {
		if r, h := season.Share(awarded(awards()[x.award]), x.man); r != x.want || h != x.h {
			t.Errorf("%d: %v, %v, want %v, %v", i, r, h, x.want, x.h)
		}
	}
	// the least and the most are in the middle
	middle := api.SeasonAward{Value: reach(12, 16), Men: []api.SeasonMan{man("a", 4), man("b", 1), man("c", 1)}}
	if r, h := season.Share(awarded(middle), 1); r != reach(2, 3) || h != smooth {
		t.Error(r, h)
	}
}

// P10.3
func TestPut(t *testing.T) {
	for i, x := range []struct {
		e    api.SeasonEntry
		line string
		h    api.Hitch
	}{
		{api.SeasonEntry{Hand: 1, Kind: api.SeasonHeel, C: 2}, "entry 1 heel 0 0 2 0 -", smooth}, {api.SeasonEntry{}, "entry 0 strike 0 0 0 0 -", smooth},
		{api.SeasonEntry{Hand: -5, Kind: api.SeasonSign, A: 999999999, B: -999999999, C: 7, M: reach(5, 3), S: "A:b"}, "entry -5 sign 999999999 -999999999 7 5:3 A:b", smooth}, {api.SeasonEntry{Kind: api.SeasonBlow, M: reach(-1, 1)}, "entry 0 blow 0 0 0 -1:1 -", smooth}, {api.SeasonEntry{Kind: api.SeasonClean, S: "--"}, "entry 0 clean 0 0 0 0 --", smooth}, {api.SeasonEntry{S: "\x00\t\r\xff"}, "entry 0 strike 0 0 0 0 \x00\t\r\xff", smooth},
		{api.SeasonEntry{Kind: -1}, "", api.Bounds}, {api.SeasonEntry{Kind: 19}, "", api.Bounds}, {api.SeasonEntry{Kind: math.MaxInt}, "", api.Bounds}, {api.SeasonEntry{Kind: 19, S: "-"}, "", api.Bounds},
		{api.SeasonEntry{Hand: 1000000000}, "", api.Bounds}, {api.SeasonEntry{A: 1000000000}, "", api.Bounds}, {api.SeasonEntry{B: -1000000000}, "", api.Bounds}, {api.SeasonEntry{C: math.MaxInt}, "", api.Bounds}, {api.SeasonEntry{M: reach(-1000000000, 0)}, "", api.Bounds}, {api.SeasonEntry{M: reach(0, 1000000000)}, "", api.Bounds}, {api.SeasonEntry{A: math.MinInt, S: "-"}, "", api.Bounds},
		{api.SeasonEntry{S: "a b"}, "", api.Shape}, {api.SeasonEntry{S: " "}, "", api.Shape}, {api.SeasonEntry{S: "a\n"}, "", api.Shape}, {api.SeasonEntry{S: "-"}, "", api.Shape},
	} {
		if s, h := season.Put(x.e); s != x.line || h != x.h {
			t.Errorf("%d: %q, %v, want %q, %v", i, s, h, x.line, x.h)
		}
		if e, h := season.Take(x.line); x.h == smooth && (e != x.e || h != smooth) {
			t.Errorf("%d: %v, %v, want %v", i, e, h, x.e)
		}
	}
	long := api.SeasonEntry{S: strings.Repeat("s", 50000)}
	s, _ := season.Put(long)
	if e, h := season.Take(s); e != long || h != smooth {
		t.Error(len(s), h)
	}
}

// P10.3
func TestTake(t *testing.T) {
	for kind, row := range rows() {
		if e, h := season.Take("entry 0 " + row[0] + " 1 2 3 4 x"); e != (api.SeasonEntry{Kind: api.SeasonKind(kind), A: 1, B: 2, C: 3, M: one(4), S: "x"}) || h != smooth {
			t.Errorf("%s: %v, %v", row[0], e, h)
		}
	}
	for _, s := range []string{"", "-", "entry", "entry 0 strike 0 0 0 0", "entry 0 strike 0 0 0 0 - -", "entry 0 strikes 0 0 0 0 -", "entry 0 Strike 0 0 0 0 -", "entry 0  0 0 0 0 -", "entry x strike 0 0 0 0 -", "entry 0 strike 01 0 0 0 -", "entry 0 strike 0 x 0 0 -", "entry 0 strike 0 0 -0 0 -", "entry 0 strike 0 0 0 0:0 -", "entry 0 strike 0 0 0 1: -", "entry 0 strike 0 0 0 0 -\n", "entry 0 strike 0 0 0 0 a\nb", "\nentry 0 strike 0 0 0 0 -", "entry  0 strike 0 0 0 0 -", " entry 0 strike 0 0 0 0 -", "entry 0 strike 0 0 0 0 ", "Entry 0 strike 0 0 0 0 -", "entry 1000000000 strike 0 0 0 0 -", "ask plan 2", "\n"} {
		if e, h := season.Take(s); e != (api.SeasonEntry{}) || h != api.Shape {
			t.Errorf("%q: %v, %v", s, e, h)
		}
	}
	if e, h := season.Take("entry 7 blow 0 0 0 7:5 -"); e != (api.SeasonEntry{Hand: 7, Kind: api.SeasonBlow, M: reach(7, 5)}) || h != smooth {
		t.Error(e, h)
	}
}

// entry is an entry of the hand 0.
func entry(kind api.SeasonKind, a, b, c int) api.SeasonEntry {
	return api.SeasonEntry{Kind: kind, A: a, B: b, C: c}
}

// of is an entry of the hand 0 with a reach.
func of(kind api.SeasonKind, a int, m api.Reach) api.SeasonEntry {
	return api.SeasonEntry{Kind: kind, A: a, M: m}
}

// strike is that of an entry by a hand.
func strike(hand, a int) api.SeasonEntry { return api.SeasonEntry{Hand: hand, A: a} }

// by is an entry of the hand 1.
func by(e api.SeasonEntry) api.SeasonEntry {
	e.Hand = 1
	return e
}

func sign(name string, shares int) api.SeasonEntry {
	return api.SeasonEntry{Kind: api.SeasonSign, A: shares, S: name}
}

func clean(find, place int, letter string) api.SeasonEntry {
	return api.SeasonEntry{Kind: api.SeasonClean, A: find, B: place, S: letter}
}

// P10.3: what each kind of entries does.
func TestDo(t *testing.T) {
	for i, x := range []struct {
		e      api.SeasonEntry
		change func(b *api.SeasonBook)
	}{
		{entry(api.SeasonTrust, 1, 0, 0), func(b *api.SeasonBook) { b.Chart.Witnesses[1].Sure = true }},
		{of(api.SeasonSwing, 1, reach(1, 3)), func(b *api.SeasonBook) { b.Chart.Compasses[1] = one(1) }},
		{entry(api.SeasonSound, 2, 1, 1), func(b *api.SeasonBook) {
			b.Drag.Leads = []api.DragLead{{At: api.DragSquare{Row: 2, Lane: 1}, Brought: api.DragMud}}
		}},
		{of(api.SeasonSteady, 0, reach(-2, 0)), func(b *api.SeasonBook) { b.Drag.Lines[0].Tide = one(0) }},
		{entry(api.SeasonWatch, 44, 0, 0), func(b *api.SeasonBook) { b.Slack.Watches = append(b.Slack.Watches, api.SlackWatch{At: 44}) }},
		{entry(api.SeasonWatch, 44, 0, 1), func(b *api.SeasonBook) {
			b.Slack.Watches = append(b.Slack.Watches, api.SlackWatch{At: 44, Slack: true})
		}},
		{of(api.SeasonBlow, 0, reach(1, 9)), func(b *api.SeasonBook) { b.Slack.Shift = one(1) }},
		{of(api.SeasonMark, 1, reach(11, 12)), func(b *api.SeasonBook) { b.Bell.Marks = []api.BellMark{{Minute: 1, Dry: reach(11, 12)}} }},
		{entry(api.SeasonSend, 2, 0, 0), func(b *api.SeasonBook) { b.Bell.Sent = []int{2} }},
		{entry(api.SeasonLine, 0, 10, 1), func(b *api.SeasonBook) { b.Stint.Soundings = []api.StintSounding{{Line: 10, Bottom: true}} }},
		{entry(api.SeasonLine, 1, 10, 0), func(b *api.SeasonBook) { b.Stint.Soundings = []api.StintSounding{{Place: 1, Line: 10}} }},
		{entry(api.SeasonHurt, 12, 15, 0), func(b *api.SeasonBook) {
			b.Stint.Rows = []api.StintRow{{Depth: 10, Stay: 40}, {Depth: 12, Stay: 15}, {Depth: 20, Stay: 15}}
		}},
		{entry(api.SeasonHeel, 0, 0, 2), func(b *api.SeasonBook) { b.Hull.Heels = []api.HullHeel{{Side: api.HullStarboard}} }},
		{entry(api.SeasonLift, 2, 0, 0), func(b *api.SeasonBook) { b.Hull.Out = []int{2} }},
		{entry(api.SeasonTry, 0, 21, 1), func(b *api.SeasonBook) { b.Tackle.Tests = []api.TackleTest{{Load: 21, Held: true}} }},
		{entry(api.SeasonTry, 1, 30, 0), func(b *api.SeasonBook) { b.Tackle.Tests = []api.TackleTest{{Gear: 1, Load: 30}} }},
		{entry(api.SeasonNight, 0, 0, 1), func(b *api.SeasonBook) { b.Mooring.Nights = []api.MooringNight{{Rode: true}} }},
		{entry(api.SeasonNight, 0, 0, 0), func(b *api.SeasonBook) { b.Mooring.Nights = []api.MooringNight{{}} }},
		{clean(0, 1, "c"), func(b *api.SeasonBook) { b.Finds.Finds[0] = "ac" }},
		{entry(api.SeasonNote, 0, 2, 1), func(b *api.SeasonBook) {
			b.Finds.Notes = append(b.Finds.Notes, api.FindsNote{A: 0, B: 2, Same: true})
		}},
		{entry(api.SeasonNote, 1, 2, 0), func(b *api.SeasonBook) { b.Finds.Notes = append(b.Finds.Notes, api.FindsNote{A: 1, B: 2}) }},
		{of(api.SeasonValue, 0, reach(101, 200)), func(b *api.SeasonBook) { b.Award.Value = one(101) }},
		{of(api.SeasonValue, 0, reach(0, 99999)), func(b *api.SeasonBook) {}},
		{sign("dee", 9), func(b *api.SeasonBook) { b.Award.Men = append(b.Award.Men, man("dee", 9)) }},
	} {
		for _, e := range []api.SeasonEntry{x.e, by(x.e)} {
			if b, h := season.Do(bookY(), e); !equal(b, changed(x.change)) || h != smooth {
				t.Errorf("%d: %v, %v", i, b, h)
			}
		}
	}
}

// P10.3: the hitches of Do.
func TestDoHitches(t *testing.T) {
	for i, x := range []struct {
		e api.SeasonEntry
		h api.Hitch
	}{
		// by itself
		{api.SeasonEntry{Kind: -1}, api.Bounds}, {api.SeasonEntry{Kind: 19, B: 1}, api.Bounds}, {api.SeasonEntry{Kind: math.MinInt}, api.Bounds}, {strike(2, 1), api.Bounds}, {strike(-1, 1), api.Bounds}, {api.SeasonEntry{Hand: 2, B: 1}, api.Bounds},
		{api.SeasonEntry{Kind: api.SeasonWatch, A: 999, C: 2}, api.Bounds}, {entry(api.SeasonWatch, 44, 0, -1), api.Bounds}, {entry(api.SeasonLine, 0, 10, 2), api.Bounds}, {entry(api.SeasonLine, 9, 10, math.MaxInt), api.Bounds}, {entry(api.SeasonTry, 0, 21, 2), api.Bounds}, {entry(api.SeasonTry, 9, 21, 2), api.Bounds}, {entry(api.SeasonNight, 0, 0, 2), api.Bounds}, {entry(api.SeasonNight, 9, 0, -1), api.Bounds}, {entry(api.SeasonNote, 0, 2, 2), api.Bounds}, {entry(api.SeasonNote, 9, 2, 2), api.Bounds}, {entry(api.SeasonWatch, 44, 1, 2), api.Shape},
		// a strike
		{strike(0, 1), api.Crossed}, {strike(1, -7), api.Crossed}, {api.SeasonEntry{A: 1, B: 1}, api.Shape},
		// of a chapter
		{entry(api.SeasonTrust, 3, 0, 0), api.Missing}, {of(api.SeasonSwing, 2, one(0)), api.Missing}, {of(api.SeasonSwing, 1, one(4)), api.Bounds}, {of(api.SeasonSwing, 1, one(2)), api.Adrift}, {entry(api.SeasonSound, 3, 0, 0), api.Missing}, {entry(api.SeasonSound, 0, 0, 3), api.Bounds}, {entry(api.SeasonSound, 1, 0, 2), api.Adrift}, {of(api.SeasonSteady, 2, one(0)), api.Missing}, {of(api.SeasonSteady, 0, one(2)), api.Adrift},
		{entry(api.SeasonWatch, 201, 0, 0), api.Bounds}, {entry(api.SeasonWatch, 45, 0, 1), api.Adrift}, {of(api.SeasonBlow, 0, one(10)), api.Bounds}, {of(api.SeasonBlow, 0, one(-1)), api.Adrift}, {of(api.SeasonMark, 6, one(0)), api.Missing}, {of(api.SeasonMark, 1, one(100)), api.Bounds}, {of(api.SeasonMark, 1, one(30)), api.Adrift}, {entry(api.SeasonSend, 6, 0, 0), api.Missing}, {entry(api.SeasonLine, 2, 0, 0), api.Missing}, {entry(api.SeasonLine, 0, 8, 1), api.Adrift}, {entry(api.SeasonHurt, 31, 5, 0), api.Bounds}, {entry(api.SeasonHurt, 12, 21, 0), api.Crossed},
		{entry(api.SeasonHeel, 0, 0, 3), api.Bounds}, {entry(api.SeasonHeel, 1, 0, 0), api.Missing}, {entry(api.SeasonHeel, 0, 0, 1), api.Adrift}, {entry(api.SeasonLift, 3, 0, 0), api.Missing}, {entry(api.SeasonLift, 0, 0, 0), api.Crossed}, {entry(api.SeasonTry, 2, 1, 0), api.Missing}, {entry(api.SeasonTry, 0, 0, 0), api.Bounds}, {entry(api.SeasonTry, 0, 99, 1), api.Adrift}, {entry(api.SeasonNight, 2, 0, 0), api.Missing}, {entry(api.SeasonNight, 1, 0, 0), api.Adrift}, {clean(3, 0, "a"), api.Missing}, {clean(0, 0, "c"), api.Double}, {clean(0, 1, "C"), api.Shape}, {clean(0, 1, ""), api.Shape}, {clean(0, 1, "z"), api.Adrift}, {entry(api.SeasonNote, 0, 0, 1), api.Crossed}, {entry(api.SeasonNote, 0, 1, 0), api.Adrift},
		// of the award
		{of(api.SeasonValue, 0, reach(102, 200)), api.Adrift}, {of(api.SeasonValue, 0, reach(0, 99)), api.Adrift}, {of(api.SeasonValue, 0, reach(-1, 200)), api.Bounds}, {of(api.SeasonValue, 0, reach(100, 100000)), api.Bounds}, {of(api.SeasonValue, 0, reach(101, 100)), api.Bounds}, {sign("dee", 10), api.Bounds}, {sign("dee", -1), api.Bounds}, {sign("ann", 1), api.Double}, {sign("", 1), api.Label}, {sign("Dee", 10), api.Label}, {sign("ann", 10), api.Double},
	} {
		if b, h := season.Do(bookY(), x.e); !isZero(b) || h != x.h {
			t.Errorf("%d: %v: %v, want %v", i, x.e, h, x.h)
		}
	}
	four := awarded(awards()[2])
	if b, h := season.Do(four, sign("", 10)); !isZero(b) || h != api.Number {
		t.Error(h)
	}
	if b, h := season.Do(chosen([all]int{0, 0, 0, 3}), entry(api.SeasonSend, 1, 0, 0)); !isZero(b) || h != api.Crossed {
		t.Error(h)
	}
}

// P10.3: a field that a kind does not use is to be empty.
func TestUnusedFields(t *testing.T) {
	for kind, row := range rows() {
		for field, change := range map[string]func(e *api.SeasonEntry){
			"A": func(e *api.SeasonEntry) { e.A = -1 }, "B": func(e *api.SeasonEntry) { e.B = 1 }, "C": func(e *api.SeasonEntry) { e.C = 1 },
			"M": func(e *api.SeasonEntry) { e.M = reach(0, 1) }, "S": func(e *api.SeasonEntry) { e.S = "s" },
		} {
			e := api.SeasonEntry{Kind: api.SeasonKind(kind)}
			change(&e)
			_, h := season.Do(bookY(), e)
			if _, want := modelDoneAlone(bookY(), e); h != want {
				t.Errorf("%s %s: %v, want %v", row[0], field, h, want)
			}
			if isUsed := strings.Contains(row[1], field); !isUsed && h != api.Shape {
				t.Errorf("%s %s: %v", row[0], field, h)
			}
		}
	}
}

// modelDoneAlone returns what Do does.
func modelDoneAlone(b api.SeasonBook, e api.SeasonEntry) (api.SeasonBook, api.Hitch) {
	if h := modelOwn(e); h != smooth {
		return api.SeasonBook{}, h
	}
	if e.Kind == api.SeasonStrike {
		return api.SeasonBook{}, api.Crossed
	}
	return modelDone(b, e)
}

// journalJ is the journal J of the chapter.
func journalJ() []api.SeasonEntry {
	return []api.SeasonEntry{entry(api.SeasonTrust, 0, 0, 0), by(entry(api.SeasonHeel, 0, 0, 2)), strike(1, 1), entry(api.SeasonLift, 2, 0, 0), by(entry(api.SeasonHeel, 1, 0, 2)), strike(0, 4)}
}

// journals are some, with what comes of them.
func journals() []struct {
	l       []api.SeasonEntry
	hitches []api.Hitch
	stands  []int
	out     []int // the pieces that are out in the end
} {
	lift := func(piece int) api.SeasonEntry { return entry(api.SeasonLift, piece, 0, 0) }
	return []struct {
		l       []api.SeasonEntry
		hitches []api.Hitch
		stands  []int
		out     []int
	}{
		{nil, nil, nil, nil},
		{journalJ(), []api.Hitch{smooth, smooth, api.Crossed, smooth, api.Adrift, smooth}, []int{1, 2, 6}, nil},
		{journalJ()[:5], []api.Hitch{smooth, smooth, api.Crossed, smooth, api.Adrift}, []int{1, 2, 4}, []int{2}},
		// what others rest on is not struck
		{[]api.SeasonEntry{lift(2), lift(0), strike(0, 1), strike(0, 2), strike(0, 1), strike(0, 1)}, []api.Hitch{smooth, smooth, api.Crossed, smooth, smooth, api.Missing}, []int{4, 5}, nil},
		{[]api.SeasonEntry{lift(2), lift(1), strike(0, 1), lift(2)}, []api.Hitch{smooth, smooth, smooth, smooth}, []int{2, 3, 4}, []int{1, 2}},
		// the first of two that are refused decides
		{[]api.SeasonEntry{lift(2), entry(api.SeasonHeel, 1, 0, 1), lift(0), strike(0, 1)}, []api.Hitch{smooth, smooth, smooth, api.Missing}, []int{1, 2, 3}, []int{2, 0}},
		{[]api.SeasonEntry{lift(2), lift(0), by(entry(api.SeasonHeel, 2, 0, 2)), strike(0, 1)}, []api.Hitch{smooth, smooth, smooth, api.Crossed}, []int{1, 2, 3}, []int{2, 0}},
		// what is no entry that stands
		{[]api.SeasonEntry{{Hand: 2}, {Kind: 19}, strike(0, 1), strike(0, 3), strike(0, 0), strike(0, -1), strike(0, 7), strike(0, 8), strike(0, math.MaxInt), strike(0, math.MinInt)}, []api.Hitch{api.Bounds, api.Bounds, api.Missing, api.Missing, api.Missing, api.Missing, api.Missing, api.Missing, api.Missing, api.Missing}, nil, nil},
		{[]api.SeasonEntry{lift(0), strike(0, 1), lift(2), strike(0, 3), strike(0, 4), strike(0, 3), by(lift(2)), strike(0, 7), strike(1, 7)}, []api.Hitch{api.Crossed, api.Missing, smooth, smooth, api.Missing, api.Missing, smooth, api.Crossed, smooth}, []int{4, 9}, nil},
		// its own hitch comes first
		{[]api.SeasonEntry{lift(2), {A: 9, B: 1}, {Hand: 2, A: 1}, {A: 1, S: "a"}}, []api.Hitch{smooth, api.Shape, api.Bounds, api.Shape}, []int{1}, []int{2}},
		// what was struck can be done again, and what was refused, once what is in its way is struck
		{[]api.SeasonEntry{sign("dee", 1), sign("eve", 1), strike(0, 1), sign("eve", 1), lift(2)}, []api.Hitch{smooth, api.Number, smooth, smooth, smooth}, []int{3, 4, 5}, []int{2}},
	}
}

// P10.4
func TestPlay(t *testing.T) {
	for i, x := range journals() {
		hitches, now, h := season.Play(bookY(), x.l)
		if !slices.Equal(hitches, x.hitches) || !slices.Equal(now.Hull.Out, x.out) || h != smooth {
			t.Errorf("%d: %v, %v, %v, want %v, %v", i, hitches, now.Hull.Out, h, x.hitches, x.out)
		}
		if _, _, want := modelPlay(bookY(), x.l); !equal(now, want) {
			t.Errorf("%d: %v, want %v", i, now, want)
		}
	}
	if l, now, h := season.Play(bookY(), make([]api.SeasonEntry, 11)); l != nil || !isZero(now) || h != api.Number {
		t.Error(l, now, h)
	}
	if l, now, h := season.Play(bookY(), make([]api.SeasonEntry, 10)); len(l) != 10 || !equal(now, bookY()) || h != smooth {
		t.Error(l, now, h)
	}
}

// P10.4
func TestStands(t *testing.T) {
	for i, x := range journals() {
		if l, h := season.Stands(bookY(), x.l); !slices.Equal(l, x.stands) || h != smooth {
			t.Errorf("%d: %v, %v, want %v", i, l, h, x.stands)
		}
	}
	if l, h := season.Stands(bookY(), make([]api.SeasonEntry, 11)); l != nil || h != api.Number {
		t.Error(l, h)
	}
}

// P10.4
func TestWhy(t *testing.T) {
	watch := func(at, is int) api.SeasonEntry { return entry(api.SeasonWatch, at, 0, is) }
	sound := func(long, is int) api.SeasonEntry { return entry(api.SeasonLine, 0, long, is) }
	watches := []api.SeasonEntry{of(api.SeasonBlow, 0, one(0)), entry(api.SeasonTrust, 0, 0, 0), watch(44, 0), watch(44, 1), watch(45, 1)}
	three := []api.SeasonEntry{sound(9, 0), sound(10, 1), sound(11, 1), sound(9, 1)}
	for i, x := range []struct {
		l     []api.SeasonEntry
		entry int
		want  []int
		found bool
		h     api.Hitch
	}{
		{journalJ(), 5, []int{4}, true, smooth}, {journalJ(), 3, nil, false, smooth}, {journalJ(), 1, nil, false, smooth}, {journalJ(), 6, nil, false, smooth},
		{journalJ(), 0, nil, false, api.Missing}, {journalJ(), 7, nil, false, api.Missing}, {journalJ(), -1, nil, false, api.Missing}, {nil, 1, nil, false, api.Missing}, {nil, math.MinInt, nil, false, api.Missing}, {nil, math.MaxInt, nil, false, api.Missing}, {make([]api.SeasonEntry, 11), 12, nil, false, api.Number}, {make([]api.SeasonEntry, 11), 1, nil, false, api.Number},
		// one, none, and two
		{watches, 4, []int{1}, true, smooth}, {watches, 5, nil, true, smooth}, {watches[1:], 3, []int{2}, true, smooth}, {[]api.SeasonEntry{watch(37, 0), watch(44, 0), watch(38, 1)}, 3, []int{1, 2}, true, smooth}, {[]api.SeasonEntry{sound(10, 1), sound(11, 1), sound(10, 0)}, 3, []int{1}, true, smooth},
		// with three alone
		{three, 4, nil, false, smooth}, {three[1:], 3, nil, false, smooth},
		// what is struck, and what is refused, is not among them
		{[]api.SeasonEntry{sign("dee", 1), strike(0, 1), by(sign("dee", 2)), sign("dee", 3)}, 4, []int{3}, true, smooth}, {[]api.SeasonEntry{sign("ann", 1), sign("dee", 1), sign("dee", 1)}, 3, []int{2}, true, smooth}, {[]api.SeasonEntry{entry(api.SeasonLift, 2, 0, 0), strike(0, 1), entry(api.SeasonLift, 2, 0, 0), entry(api.SeasonLift, 2, 0, 0)}, 4, []int{3}, true, smooth},
		// an entry that is struck later stood then
		{[]api.SeasonEntry{sign("dee", 1), sign("dee", 2), strike(0, 1)}, 2, []int{1}, true, smooth},
		// the hitch of an entry by itself, and that of the award
		{[]api.SeasonEntry{{Hand: 2}}, 1, nil, false, smooth}, {[]api.SeasonEntry{entry(api.SeasonWatch, 44, 1, 0)}, 1, nil, false, smooth}, {[]api.SeasonEntry{watch(44, 2)}, 1, nil, false, smooth}, {[]api.SeasonEntry{of(api.SeasonValue, 0, one(-1))}, 1, nil, true, smooth}, {[]api.SeasonEntry{of(api.SeasonValue, 0, one(100)), of(api.SeasonValue, 0, one(101))}, 2, []int{1}, true, smooth}, {[]api.SeasonEntry{sign("", 1)}, 1, nil, true, smooth}, {[]api.SeasonEntry{sign("dee", 1), sign("eve", 1)}, 2, []int{1}, true, smooth},
		// the same hitch, and no other one
		{[]api.SeasonEntry{entry(api.SeasonLift, 2, 0, 0), entry(api.SeasonLift, 0, 0, 0), entry(api.SeasonLift, 0, 0, 0)}, 3, []int{1, 2}, true, smooth},
	} {
		if l, found, h := season.Why(bookY(), x.l, x.entry); !slices.Equal(l, x.want) || found != x.found || h != x.h {
			t.Errorf("%d: %v, %v, %v, want %v, %v, %v", i, l, found, h, x.want, x.found, x.h)
		}
	}
}

func ask(kind api.SeasonQuestion, a int) api.SeasonAsk { return api.SeasonAsk{Kind: kind, A: a} }

// better is Y with what makes more of its answers yes.
func better(t *testing.T) api.SeasonBook {
	t.Helper()
	_, now, _ := season.Play(bookY(), []api.SeasonEntry{entry(api.SeasonLine, 0, 10, 1), entry(api.SeasonTry, 0, 21, 1), of(api.SeasonBlow, 0, one(0))})
	if l, h := season.Differ(bookY(), now); !slices.Equal(l, []int{2, 4, 6}) || h != smooth {
		t.Fatal(l, h)
	}
	return now
}

// P10.5
func TestAsk(t *testing.T) {
	for i, x := range []struct {
		b     api.SeasonBook
		q     api.SeasonAsk
		yes   bool
		proof []int
		h     api.Hitch
	}{
		{bookY(), ask(api.SeasonFalse, 0), true, nil, smooth}, {bookY(), ask(api.SeasonFalse, -1), false, nil, smooth}, {bookY(), ask(api.SeasonFalse, math.MaxInt), true, nil, smooth}, {chosen([all]int{3}), ask(api.SeasonFalse, 0), false, nil, smooth}, {chosen([all]int{3}), ask(api.SeasonFalse, 1), true, []int{1}, smooth},
		{bookY(), ask(api.SeasonPlan, 2), true, []int{1, 3}, smooth}, {bookY(), ask(api.SeasonPlan, 3), true, []int{1, 3}, smooth}, {bookY(), ask(api.SeasonPlan, 1), false, nil, smooth}, {bookY(), ask(api.SeasonPlan, math.MinInt), false, nil, smooth}, {chosen([all]int{0, 0, 0, 4}), ask(api.SeasonPlan, 2), false, nil, api.Adrift},
		{bookY(), ask(api.SeasonRota, 0), false, nil, smooth}, {bookY(), ask(api.SeasonRota, 1), false, nil, api.Shape}, {better(t), ask(api.SeasonRota, 0), true, []int{0, 1, -1, 0, -1, 0, -1}, smooth}, {better(t), ask(api.SeasonRota, -1), false, nil, api.Shape}, {chosen([all]int{0, 0, 0, 0, 3}), ask(api.SeasonRota, 0), false, nil, api.Adrift}, {chosen([all]int{0, 0, 0, 0, 3}), ask(api.SeasonRota, 1), false, nil, api.Shape},
		{bookY(), ask(api.SeasonOrder, 0), true, []int{2, 0, 1}, smooth}, {bookY(), ask(api.SeasonOrder, -1), false, nil, api.Shape}, {chosen([all]int{0, 0, 0, 0, 0, 1}), ask(api.SeasonOrder, 0), true, []int{0, 1}, smooth}, {chosen([all]int{0, 0, 0, 0, 0, 4}), ask(api.SeasonOrder, 0), false, nil, api.Adrift}, {chosen([all]int{0, 0, 0, 0, 0, 5}), ask(api.SeasonOrder, 0), true, nil, smooth},
		{bookY(), ask(api.SeasonGears, 2), false, nil, smooth}, {better(t), ask(api.SeasonGears, 1), true, []int{0}, smooth}, {better(t), ask(api.SeasonGears, 0), false, nil, smooth}, {chosen([all]int{0, 0, 0, 0, 0, 0, 4}), ask(api.SeasonGears, 2), false, nil, api.Adrift},
		{bookY(), ask(api.SeasonOurs, 2), true, []int{0, 1}, smooth}, {bookY(), ask(api.SeasonOurs, 3), false, nil, smooth}, {bookY(), ask(api.SeasonOurs, -3), true, []int{0, 1}, smooth}, {bookY(), ask(api.SeasonOurs, 1), true, []int{0, 1}, smooth}, {chosen([all]int{0, 0, 0, 0, 0, 0, 0, 0, 3}), ask(api.SeasonOurs, 0), false, nil, api.Adrift}, {chosen([all]int{0, 0, 0, 0, 0, 0, 0, 0, 2}), ask(api.SeasonOurs, 0), true, nil, smooth},
		{bookY(), ask(api.SeasonSettled, 5), false, nil, smooth}, {better(t), ask(api.SeasonSettled, 2), true, nil, smooth}, {bookY(), ask(api.SeasonSettled, 9), false, nil, api.Missing}, {bookY(), ask(api.SeasonSettled, -1), false, nil, api.Missing}, {chosen([all]int{3}), ask(api.SeasonSettled, 0), false, nil, smooth},
		{bookY(), ask(7, 0), false, nil, api.Bounds}, {bookY(), ask(-1, 0), false, nil, api.Bounds}, {bookY(), ask(math.MaxInt, 9), false, nil, api.Bounds},
	} {
		yes, proof, h := season.Ask(x.b, x.q)
		if yes != x.yes || !slices.Equal(proof, x.proof) || h != x.h {
			t.Errorf("%d: %v: %v, %v, %v, want %v, %v, %v", i, x.q, yes, proof, h, x.yes, x.proof, x.h)
		}
		if is, h := season.Judge(x.b, x.q, x.proof); is != x.yes || h != x.h {
			t.Errorf("%d: %v: its proof: %v, %v", i, x.q, is, h)
		}
	}
	// Each part can be settled.
	for part := range layers {
		settled := [all]int{2, 3, 1, 3, 0, 1, 2, 1, 1}
		b := chosen(settled)
		b.Stint.Places[0] = one(9)
		if yes, proof, h := season.Ask(b, ask(api.SeasonSettled, part)); !yes || len(proof) > 0 || h != smooth {
			t.Errorf("%s: %v, %v", partWords()[part], yes, h)
		}
	}
}

// P10.5
func TestJudge(t *testing.T) {
	b, sent := better(t), chosen([all]int{0, 0, 0, 1})
	marked := chosen([all]int{0, 0, 0, 2})
	for i, x := range []struct {
		b     api.SeasonBook
		q     api.SeasonAsk
		proof []int
		is    bool
	}{
		{b, ask(api.SeasonFalse, 1), []int{0}, true}, {b, ask(api.SeasonFalse, 3), []int{0, 1, 2}, true}, {b, ask(api.SeasonFalse, 0), []int{0}, false}, {b, ask(api.SeasonFalse, 3), []int{3}, false}, {b, ask(api.SeasonFalse, 3), []int{1, 0}, false}, {b, ask(api.SeasonFalse, 3), []int{1, 1}, false}, {b, ask(api.SeasonFalse, 3), []int{-1}, false}, {b, ask(api.SeasonFalse, -1), nil, false}, {chosen([all]int{3}), ask(api.SeasonFalse, 1), nil, false}, {chosen([all]int{3}), ask(api.SeasonFalse, 1), []int{1}, true},
		{b, ask(api.SeasonPlan, 2), []int{1, 3}, true}, {b, ask(api.SeasonPlan, 2), []int{2, 4}, true}, {b, ask(api.SeasonPlan, 2), []int{1, 2}, false}, {b, ask(api.SeasonPlan, 1), []int{1, 3}, false}, {b, ask(api.SeasonPlan, 2), []int{3, 1}, false}, {b, ask(api.SeasonPlan, 9), []int{1, 2, 3}, false}, {b, ask(api.SeasonPlan, 9), []int{1, 6}, false}, {b, ask(api.SeasonPlan, 9), nil, false},
		{sent, ask(api.SeasonPlan, 2), []int{1, 3}, true}, {sent, ask(api.SeasonPlan, 2), []int{1, 4}, true}, {sent, ask(api.SeasonPlan, 2), []int{2, 4}, false}, {sent, ask(api.SeasonPlan, 2), []int{1}, false}, {sent, ask(api.SeasonPlan, 2), nil, false}, {marked, ask(api.SeasonPlan, 2), []int{2, 4}, true}, {marked, ask(api.SeasonPlan, 2), []int{1, 3}, false},
		{b, ask(api.SeasonRota, 0), []int{0, 1, -1, 0, -1, 0, -1}, true}, {b, ask(api.SeasonRota, 0), []int{0, 1, -1, 0, -1, 1, -1}, true}, {b, ask(api.SeasonRota, 0), []int{0, 1, -1, 0, -1, 1}, false}, {b, ask(api.SeasonRota, 0), []int{0, 1, -1, 1, -1, 0, -1}, false}, {b, ask(api.SeasonRota, 0), []int{1, 0, -1, 0, -1, 0, -1}, false}, {b, ask(api.SeasonRota, 0), []int{0, 1, -1, 0, -1, 0, -1, -1}, false}, {b, ask(api.SeasonRota, 0), []int{0, 1, -1, 0, -1}, false}, {b, ask(api.SeasonRota, 0), nil, false}, {b, ask(api.SeasonRota, 0), []int{-1, -1, -1}, false}, {b, ask(api.SeasonRota, 0), []int{0, 1, -2, 0, -2, 0, -2}, false},
		{b, ask(api.SeasonOrder, 0), []int{2, 0, 1}, true}, {b, ask(api.SeasonOrder, 0), []int{2, 1, 0}, false}, {b, ask(api.SeasonOrder, 0), []int{2, 0}, false}, {b, ask(api.SeasonOrder, 0), []int{0, 2, 1}, false}, {b, ask(api.SeasonOrder, 0), []int{2, 0, 1, 1}, false}, {b, ask(api.SeasonOrder, 0), nil, false}, {chosen([all]int{0, 0, 0, 0, 0, 1}), ask(api.SeasonOrder, 0), []int{1, 0}, true},
		{b, ask(api.SeasonGears, 1), []int{0}, true}, {b, ask(api.SeasonGears, 2), []int{0, 1}, true}, {b, ask(api.SeasonGears, 1), []int{0, 1}, false}, {b, ask(api.SeasonGears, 1), []int{1}, false}, {b, ask(api.SeasonGears, 3), []int{0, 0}, false}, {b, ask(api.SeasonGears, 3), []int{1, 0}, false}, {b, ask(api.SeasonGears, 3), []int{0, 2}, false}, {b, ask(api.SeasonGears, 3), []int{-1, 0}, false}, {b, ask(api.SeasonGears, 3), nil, false}, {bookY(), ask(api.SeasonGears, 2), []int{0, 1}, false},
		{b, ask(api.SeasonOurs, 1), []int{1}, true}, {b, ask(api.SeasonOurs, 2), []int{0, 1}, true}, {b, ask(api.SeasonOurs, 2), []int{1}, false}, {b, ask(api.SeasonOurs, 2), []int{1, 0}, false}, {b, ask(api.SeasonOurs, 2), []int{1, 1}, false}, {b, ask(api.SeasonOurs, 1), []int{2}, false}, {b, ask(api.SeasonOurs, 1), []int{0, 1, 2}, false}, {b, ask(api.SeasonOurs, 1), []int{3}, false}, {b, ask(api.SeasonOurs, 0), nil, true}, {b, ask(api.SeasonOurs, 1), nil, false},
		{b, ask(api.SeasonSettled, 2), nil, true}, {b, ask(api.SeasonSettled, 2), []int{}, true}, {b, ask(api.SeasonSettled, 2), []int{1}, false}, {b, ask(api.SeasonSettled, 5), nil, false}, {chosen([all]int{3}), ask(api.SeasonSettled, 0), nil, false},
	} {
		if is, h := season.Judge(x.b, x.q, x.proof); is != x.is || h != smooth {
			t.Errorf("%d: %v %v: %v, %v, want %v", i, x.q, x.proof, is, h, x.is)
		}
		if is := modelShows(x.b, x.q, x.proof); is != x.is {
			t.Errorf("%d: %v %v: the model: %v, want %v", i, x.q, x.proof, is, x.is)
		}
	}
}

// P10.5
func TestClerk(t *testing.T) {
	for i, x := range []struct {
		text, want string
		out        []int
		h          api.Hitch
	}{
		{"ask plan 2\nentry 0 lift 2 0 0 0 -\nentry 1 heel 1 0 0 0 -\nask settled 5\njudge plan 2 2,4\nshare 103\nhello\n", "yes 1,3\ndone 1\ndone 2\nyes -\nright\nshares 10,18,38,19,18\nhitch 3\n", []int{2}, smooth},
		{"", "", nil, smooth}, {"\n", "hitch 3\n", nil, smooth}, {"share 0", "shares 0,0,0,0,0\n", nil, smooth}, {"share 0\n\n", "shares 0,0,0,0,0\nhitch 3\n", nil, smooth},
		// entries, each of which is one of the journal, whatever hitch it has
		{"entry 0 lift 2 0 0 0 -\nentry 1 strike 1 0 0 0 -\nentry 0 strike 1 0 0 0 -\nentry 0 lift 0 0 0 0 -", "done 1\nhitch 7\ndone 1\nhitch 7\n", nil, smooth},
		{"entry 5 lift 2 0 0 0 -\nshare 0\nentry 0 lift 2 0 0 0 - \nentry 1 lift 2 0 0 0 -\nentry 1 strike 2 0 0 0 -\nentry 1 strike 3 0 0 0 -\n", "hitch 1\nshares 0,0,0,0,0\nhitch 3\ndone 1\ndone 1\nhitch 6\n", nil, smooth},
		{"entry 0 sign 1 0 0 0 dee\nshare 100\nentry 0 value 0 0 0 100 -\nentry 0 value 0 0 0 101 -\nentry 0 strike 3 0 0 0 -\n", "done 1\nshares 10,18,29,15,14,14\ndone 2\nhitch 9\nhitch 6\n", nil, smooth},
		// questions
		{"ask order 0\nask order 1\nask rota 0\nask plan x\nask what 0\nask plan\nask plan 1 1\nask Plan 2\nask  plan 2\nask plan 02\n", "yes 2,0,1\nhitch 3\nno\nhitch 3\nhitch 3\nhitch 3\nhitch 3\nhitch 3\nhitch 3\nhitch 3\n", nil, smooth},
		{"ask false 0\nask plan 2\nask rota 0\nask order 0\nask gears 1\nask ours 1\nask settled 0\nask settled 9\nask false -1\nask settled -1\n", "yes -\nyes 1,3\nno\nyes 2,0,1\nno\nyes 0,1\nno\nhitch 6\nno\nhitch 6\n", nil, smooth},
		{"entry 0 line 0 10 1 0 -\nask rota 0\njudge rota 0 0,1,-1,0,-1,1,-1\njudge rota 0 0,1,-1,0,-1,1\nentry 0 strike 1 0 0 0 -\nask rota 0\njudge rota 0 0,1,-1,0,-1,1,-1\n", "done 1\nyes 0,1,-1,0,-1,0,-1\nright\nwrong\ndone 1\nno\nwrong\n", nil, smooth},
		// proofs
		{"judge plan 2 1,2\njudge plan 2 -\njudge plan 2 1,\njudge settled 9 -\njudge plan 2\njudge plan 2 1,3 1\njudge what 2 1,3\njudge plan x 1,3\njudge order 1 2,0,1\njudge order 0 2,0,1\n", "wrong\nwrong\nhitch 3\nhitch 6\nhitch 3\nhitch 3\nhitch 3\nhitch 3\nhitch 3\nright\n", nil, smooth},
		// shares
		{"share -1\nshare x\nshare\nshare 1 1\nshare 99999\nshare 100000\nshares 0\nShare 0\n share 0\nshare 1:2\n", "hitch 1\nhitch 3\nhitch 3\nhitch 3\nshares 9999,18000,36000,18000,18000\nhitch 1\nhitch 3\nhitch 3\nhitch 3\nhitch 3\n", nil, smooth},
		// how much there can be
		{strings.Repeat("x\n", 10), strings.Repeat("hitch 3\n", 10), nil, smooth}, {strings.Repeat("x\n", 9) + "x", strings.Repeat("hitch 3\n", 10), nil, smooth}, {strings.Repeat("x\n", 11), "", nil, api.Number}, {strings.Repeat("\n", 11), "", nil, api.Number}, {strings.Repeat("x", 40000), "hitch 3\n", nil, smooth}, {strings.Repeat("x", 40001), "", nil, api.Number},
	} {
		s, now, h := season.Clerk(bookY(), x.text)
		if s != x.want || !slices.Equal(now.Hull.Out, x.out) || h != x.h || isZero(now) == (h == smooth) {
			t.Errorf("%d: %q, %v, %v, want %q, %v", i, s, now.Hull.Out, h, x.want, x.h)
		}
	}
	// An answer with a hitch of a chapter.
	if s, _, _ := season.Clerk(chosen([all]int{0, 0, 0, 4}), "ask plan 2\njudge plan 2 1,3\n"); s != "hitch 9\nhitch 9\n" {
		t.Errorf("%q", s)
	}
	// Each hitch has its number.
	for h, e := range []api.SeasonEntry{1: {Hand: 2}, 2: sign("eve", 1), 3: {B: 1}, 4: sign("E", 1), 5: sign("ann", 1), 6: strike(0, 9), 7: entry(api.SeasonLift, 0, 0, 0), 9: of(api.SeasonBlow, 0, one(-1))} {
		b := bookY()
		if h == int(api.Number) {
			b.Award.Men = append(b.Award.Men, man("dee", 1))
		}
		line, _ := season.Put(e)
		if s, _, _ := season.Clerk(b, line); s != fmt.Sprintf("hitch %d\n", h) && h != int(smooth) && h != int(api.Lacking) {
			t.Errorf("%v: %q", e, s)
		}
	}
	lacking := chosen([all]int{0, 0, 0, 5})
	lacking.Bell.Casks = 0
	if s, _, _ := season.Clerk(lacking, "entry 0 send 1 0 0 0 -"); s != "hitch 8\n" {
		t.Errorf("%q", s)
	}
}
