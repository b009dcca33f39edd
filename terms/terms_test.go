package terms_test

import (
	"math"
	"slices"
	"testing"

	"lagan/api"
	"lagan/terms"
)

func reach(least, most int) api.Reach { return api.Reach{Least: least, Most: most} }

func TestIsReach(t *testing.T) {
	for r, want := range map[api.Reach]bool{
		reach(-3, 3): true, reach(0, 0): true, reach(3, 3): true, reach(-3, -3): true,
		reach(-4, 0): false, reach(0, 4): false, reach(1, 0): false, reach(4, 4): false, reach(math.MinInt, math.MaxInt): false,
	} {
		if is := terms.IsReach(r, -3, 3); is != want {
			t.Errorf("%v: %v", r, is)
		}
	}
}

func TestCommon(t *testing.T) {
	for _, x := range []struct {
		a, b, want api.Reach
		ok         bool
	}{
		{reach(0, 5), reach(3, 9), reach(3, 5), true},
		{reach(0, 9), reach(3, 5), reach(3, 5), true},
		{reach(0, 3), reach(3, 5), reach(3, 3), true},
		{reach(0, 2), reach(3, 5), reach(0, 0), false},
	} {
		if r, ok := terms.Common(x.a, x.b); r != x.want || ok != x.ok {
			t.Errorf("%v and %v: %v, %v", x.a, x.b, r, ok)
		}
		if r, ok := terms.Common(x.b, x.a); r != x.want || ok != x.ok {
			t.Errorf("%v and %v: %v, %v", x.b, x.a, r, ok)
		}
	}
}

func TestLines(t *testing.T) {
	for text, want := range map[string][]string{
		"": nil, "\n": {""}, "a": {"a"}, "a\n": {"a"}, "a\n\n": {"a", ""}, "\na": {"", "a"}, "a b\nc\r\n": {"a b", "c\r"},
	} {
		if l := terms.Lines(text); !slices.Equal(l, want) {
			t.Errorf("%q: %q", text, l)
		}
	}
}

func TestFields(t *testing.T) {
	for line, want := range map[string][]string{
		"a": {"a"}, "a b c": {"a", "b", "c"}, "a\tb": {"a\tb"}, "": nil, " ": nil, " a": nil, "a ": nil, "a  b": nil,
	} {
		if l, ok := terms.Fields(line); !slices.Equal(l, want) || ok != (want != nil) {
			t.Errorf("%q: %q, %v", line, l, ok)
		}
	}
	if s := terms.PrintLine("a", "b", "c"); s != "a b c\n" {
		t.Errorf("%q", s)
	}
}

func TestNumber(t *testing.T) {
	for n, field := range map[int]string{0: "0", 7: "7", -7: "-7", 10: "10", 999999999: "999999999", -999999999: "-999999999"} {
		if x, ok := terms.Number(field); x != n || !ok {
			t.Errorf("%q: %d, %v", field, x, ok)
		}
		if s := terms.PrintNumber(n); s != field {
			t.Errorf("%d: %q", n, s)
		}
	}
	for _, field := range []string{"", "-", "-0", "00", "01", "-01", "+1", "--1", "1-", "1.0", "1e1", "0x1", "1_0", " 1", "1000000000", "-1000000000", "18446744073709551617", "/", ":", "٣"} {
		if x, ok := terms.Number(field); x != 0 || ok {
			t.Errorf("%q: %d, %v", field, x, ok)
		}
	}
}

func TestNumbers(t *testing.T) {
	if l, ok := terms.Numbers([]string{"1", "-2"}, 2); !slices.Equal(l, []int{1, -2}) || !ok {
		t.Errorf("%v, %v", l, ok)
	}
	for _, fields := range [][]string{nil, {"1"}, {"1", "2", "3"}, {"1", "x"}} {
		if l, ok := terms.Numbers(fields, 2); l != nil || ok {
			t.Errorf("%q: %v, %v", fields, l, ok)
		}
	}
}

func TestReach(t *testing.T) {
	for field, want := range map[string]api.Reach{"5": reach(5, 5), "5:7": reach(5, 7), "-3:0": reach(-3, 0)} {
		if r, ok := terms.Reach(field); r != want || !ok {
			t.Errorf("%q: %v, %v", field, r, ok)
		}
		if s := terms.PrintReach(want); s != field {
			t.Errorf("%v: %q", want, s)
		}
	}
	if r, ok := terms.Reach("7:5"); r != reach(7, 5) || !ok {
		t.Errorf("%v, %v", r, ok)
	}
	for _, field := range []string{"", ":", "5:", ":5", "5:5", "0:-0", "1:2:3", "5-7", "5: 7", "x:1", "1:x"} {
		if r, ok := terms.Reach(field); r != reach(0, 0) || ok {
			t.Errorf("%q: %v, %v", field, r, ok)
		}
	}
}
