package terms_test

import (
	"errors"
	"math"
	"slices"
	"testing"

	"lagan/api"
	"lagan/terms"
)

func reach(least, most int) api.Reach { return api.Reach{Least: least, Most: most} }

func TestWithin(t *testing.T) {
	for n, want := range map[int]bool{-3: true, 0: true, 5: true, -4: false, 6: false, math.MinInt: false, math.MaxInt: false} {
		if is := terms.Within(n, -3, 5); is != want {
			t.Errorf("%d: %v", n, is)
		}
		if is := terms.Has(reach(-3, 5), n); is != want {
			t.Errorf("%d of a reach: %v", n, is)
		}
	}
}

func TestHitchUnless(t *testing.T) {
	if h := terms.HitchUnless(true, api.Label); h != api.Smooth {
		t.Error(h)
	}
	if h := terms.HitchUnless(false, api.Label); h != api.Label {
		t.Error(h)
	}
}

func TestCheckIndexes(t *testing.T) {
	for i, x := range []struct {
		list []int
		want api.Hitch
	}{
		{nil, api.Smooth}, {[]int{0}, api.Smooth}, {[]int{0, 2}, api.Smooth}, {[]int{0, 1, 2}, api.Smooth},
		{[]int{3}, api.Missing}, {[]int{-1}, api.Missing}, {[]int{math.MinInt}, api.Missing}, {[]int{1, 0}, api.Crossed}, {[]int{1, 1}, api.Crossed},
		{[]int{1, 0, 3}, api.Crossed}, {[]int{1, 3, 0}, api.Missing}, {[]int{2, -1}, api.Missing},
	} {
		if h := terms.CheckIndexes(x.list, 3); h != x.want {
			t.Errorf("%d: %v", i, h)
		}
	}
}

func TestCases(t *testing.T) {
	isOdd := func(n int) bool { return n%2 != 0 }
	for i, x := range []struct {
		cases []int
		yes   int
		want  api.Known
		h     api.Hitch
	}{
		{nil, 0, api.Unsure, api.Adrift}, {[]int{1}, 1, api.Surely, api.Smooth}, {[]int{1, 3}, 2, api.Surely, api.Smooth},
		{[]int{2}, 0, api.Never, api.Smooth}, {[]int{2, 4}, 0, api.Never, api.Smooth}, {[]int{1, 2, 3}, 2, api.Unsure, api.Smooth}, {[]int{2, 1}, 1, api.Unsure, api.Smooth},
	} {
		if n := terms.Many(slices.Values(x.cases)); n != len(x.cases) {
			t.Errorf("%d: Many: %d", i, n)
		}
		if is := terms.HasCase(slices.Values(x.cases)); is != (len(x.cases) > 0) {
			t.Errorf("%d: HasCase: %v", i, is)
		}
		if yes, all := terms.Count(slices.Values(x.cases), isOdd); yes != x.yes || all != len(x.cases) {
			t.Errorf("%d: Count: %d, %d", i, yes, all)
		}
		if u, h := terms.Known(slices.Values(x.cases), isOdd); u != x.want || h != x.h {
			t.Errorf("%d: Known: %v, %v", i, u, h)
		}
	}
}

func TestBest(t *testing.T) {
	for i, x := range []struct {
		first, want []int
		others      [][]int
	}{
		{[]int{1, 2}, []int{1, 2}, nil},
		{[]int{1, 2}, []int{3}, [][]int{{3}, {1, 1}, {4}}},
		{[]int{1, 2}, []int{1, 1}, [][]int{{1, 3}, {1, 1}, {0, 1, 2}}},
		{[]int{1}, nil, [][]int{{0}, nil}},
	} {
		if l := terms.Best(terms.Fewest, x.first, x.others...); !slices.Equal(l, x.want) {
			t.Errorf("%d: %v", i, l)
		}
	}
	// The first one of several that are equally good.
	type pair struct{ size, index int }
	bySize := func(a, b pair) int { return a.size - b.size }
	if p := terms.Best(bySize, pair{2, 0}, pair{1, 1}, pair{1, 2}, pair{2, 3}); p != (pair{1, 1}) {
		t.Error(p)
	}
	if p := terms.Best(bySize, pair{1, 0}, pair{1, 1}); p != (pair{1, 0}) {
		t.Error(p)
	}
}

func TestReadLines(t *testing.T) {
	for text, x := range map[string]struct {
		line int
		read []string
	}{
		"": {0, nil}, "\n": {1, nil}, "a b\nc": {-1, []string{"a", "b", "c"}}, "a b\nc\n": {-1, []string{"a", "b", "c"}},
		"a\n\nc\n": {2, []string{"a"}}, "a\nb  b\n": {2, []string{"a"}}, "a\nb\nwrong x\nc\n": {3, []string{"a", "b", "wrong", "x"}},
	} {
		var read []string
		err := terms.ReadLines(text, func(fields []string) bool {
			read = append(read, fields...)
			return fields[0] != "wrong"
		})
		var wrong terms.WrongLine
		if is := errors.As(err, &wrong); is != (x.line >= 0) || is && wrong.Number != x.line || !slices.Equal(read, x.read) {
			t.Errorf("%q: %v, %q", text, err, read)
		}
	}
	if s := (terms.WrongLine{Number: 7}).Error(); s != "wrong line 7" {
		t.Error(s)
	}
}

func TestIsReach(t *testing.T) {
	for r, want := range map[api.Reach]bool{
		reach(-3, 3): true, reach(0, 0): true, reach(3, 3): true, reach(-3, -3): true,
		reach(-4, 0): false, reach(0, 4): false, reach(1, 0): false, reach(4, 4): false, reach(math.MinInt, math.MaxInt): false,
	} {
		if is := terms.IsReach(r, -3, 3); is != want {
			t.Errorf("%v: %v", r, is)
		}
	}
}

func TestCommon(t *testing.T) {
	for _, x := range []struct {
		a, b, want api.Reach
		ok         bool
	}{
		{reach(0, 5), reach(3, 9), reach(3, 5), true},
		{reach(0, 9), reach(3, 5), reach(3, 5), true},
		{reach(0, 3), reach(3, 5), reach(3, 3), true},
		{reach(0, 2), reach(3, 5), reach(0, 0), false},
	} {
		if r, ok := terms.Common(x.a, x.b); r != x.want || ok != x.ok {
			t.Errorf("%v and %v: %v, %v", x.a, x.b, r, ok)
		}
		if r, ok := terms.Common(x.b, x.a); r != x.want || ok != x.ok {
			t.Errorf("%v and %v: %v, %v", x.b, x.a, r, ok)
		}
	}
}

func TestLines(t *testing.T) {
	for text, want := range map[string][]string{
		"": nil, "\n": {""}, "a": {"a"}, "a\n": {"a"}, "a\n\n": {"a", ""}, "\na": {"", "a"}, "a b\nc\r\n": {"a b", "c\r"},
	} {
		if l := terms.Lines(text); !slices.Equal(l, want) {
			t.Errorf("%q: %q", text, l)
		}
	}
}

func TestFields(t *testing.T) {
	for line, want := range map[string][]string{
		"a": {"a"}, "a b c": {"a", "b", "c"}, "a\tb": {"a\tb"}, "": nil, " ": nil, " a": nil, "a ": nil, "a  b": nil,
	} {
		if l, ok := terms.Fields(line); !slices.Equal(l, want) || ok != (want != nil) {
			t.Errorf("%q: %q, %v", line, l, ok)
		}
	}
	if s := terms.PrintLine("a", "b", "c"); s != "a b c\n" {
		t.Errorf("%q", s)
	}
}

func TestNumber(t *testing.T) {
	for n, field := range map[int]string{0: "0", 7: "7", -7: "-7", 10: "10", 999999999: "999999999", -999999999: "-999999999"} {
		if x, ok := terms.Number(field); x != n || !ok {
			t.Errorf("%q: %d, %v", field, x, ok)
		}
		if s := terms.PrintNumber(n); s != field {
			t.Errorf("%d: %q", n, s)
		}
	}
	for _, field := range []string{"", "-", "-0", "00", "01", "-01", "+1", "--1", "1-", "1.0", "1e1", "0x1", "1_0", " 1", "1000000000", "-1000000000", "18446744073709551617", "/", ":", "٣"} {
		if x, ok := terms.Number(field); x != 0 || ok {
			t.Errorf("%q: %d, %v", field, x, ok)
		}
	}
}

func TestNumbers(t *testing.T) {
	if l, ok := terms.Numbers([]string{"1", "-2"}, 2); !slices.Equal(l, []int{1, -2}) || !ok {
		t.Errorf("%v, %v", l, ok)
	}
	for _, fields := range [][]string{nil, {"1"}, {"1", "2", "3"}, {"1", "x"}} {
		if l, ok := terms.Numbers(fields, 2); l != nil || ok {
			t.Errorf("%q: %v, %v", fields, l, ok)
		}
	}
}

func TestReach(t *testing.T) {
	for field, want := range map[string]api.Reach{"5": reach(5, 5), "5:7": reach(5, 7), "-3:0": reach(-3, 0)} {
		if r, ok := terms.Reach(field); r != want || !ok {
			t.Errorf("%q: %v, %v", field, r, ok)
		}
		if s := terms.PrintReach(want); s != field {
			t.Errorf("%v: %q", want, s)
		}
	}
	if r, ok := terms.Reach("7:5"); r != reach(7, 5) || !ok {
		t.Errorf("%v, %v", r, ok)
	}
	for _, field := range []string{"", ":", "5:", ":5", "5:5", "0:-0", "1:2:3", "5-7", "5: 7", "x:1", "1:x"} {
		if r, ok := terms.Reach(field); r != reach(0, 0) || ok {
			t.Errorf("%q: %v, %v", field, r, ok)
		}
	}
}
