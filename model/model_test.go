package model_test

import (
	"slices"
	"testing"

	"lagan/api"
	"lagan/model"
)

func reach(least, most int) api.Reach { return api.Reach{Least: least, Most: most} }

func equal(a, b [][]int) bool { return slices.EqualFunc(a, b, slices.Equal[[]int]) }

func TestInAndContains(t *testing.T) {
	for n, want := range map[int]bool{2: false, 3: true, 4: true, 5: true, 6: false} {
		if is := model.In(reach(3, 5), n); is != want {
			t.Errorf("%d: %v", n, is)
		}
	}
	all := []string{"a", "b", "c"}
	if !model.Contains(all, nil) || !model.Contains(all, []string{"c", "a", "c"}) || model.Contains(all, []string{"a", "d"}) || model.Contains(nil, all) {
		t.Error("contains")
	}
}

func TestLists(t *testing.T) {
	if l := model.UpTo(3); !slices.Equal(l, []int{0, 1, 2}) || len(model.UpTo(0)) > 0 {
		t.Errorf("%v", l)
	}
	l := model.Lists(3)
	slices.SortFunc(l, model.CompareLists)
	if !equal(l, [][]int{{}, {0}, {1}, {2}, {0, 1}, {0, 2}, {1, 2}, {0, 1, 2}}) {
		t.Errorf("%v", l)
	}
	if l := model.Permutations([]int{1, 4, 6}); !equal(l, [][]int{{1, 4, 6}, {1, 6, 4}, {4, 1, 6}, {4, 6, 1}, {6, 1, 4}, {6, 4, 1}}) {
		t.Errorf("%v", l)
	}
	if l := model.Numberings([]api.Reach{reach(3, 4), reach(-1, 1)}); !equal(l, [][]int{{3, -1}, {3, 0}, {3, 1}, {4, -1}, {4, 0}, {4, 1}}) {
		t.Errorf("%v", l)
	}
}

func TestFewestOf(t *testing.T) {
	for sum, want := range map[int][]int{0: nil, 2: {2}, 4: {1, 3}, 6: {1, 2, 3}} {
		l, found := model.FewestOf(4, func(list []int) bool {
			left := sum
			for _, n := range list {
				left -= n
			}
			return left == 0
		})
		if !slices.Equal(l, want) || !found {
			t.Errorf("%d: %v, %v", sum, l, found)
		}
	}
	if l, found := model.FewestOf(4, func([]int) bool { return false }); l != nil || found {
		t.Errorf("%v, %v", l, found)
	}
}

func TestKnownAndNumbersOf(t *testing.T) {
	cases := []int{4, 8, 4, 2}
	for by, want := range map[int]api.Known{2: api.Surely, 4: api.Unsure, 3: api.Never} {
		if u := model.Known(cases, func(n int) bool { return n%by == 0 }); u != want {
			t.Errorf("%d: %v", by, u)
		}
	}
	if l := model.NumbersOf(cases, func(n int) int { return -n }); !slices.Equal(l, []int{-8, -4, -2}) {
		t.Errorf("%v", l)
	}
}

// counter counts what it is told that is wrong.
type counter struct{ wrong int }

func (*counter) Helper() {}

func (c *counter) Errorf(string, ...any) { c.wrong++ }

func TestCheckZero(t *testing.T) {
	call := func(zero bool, h api.Hitch) func() (bool, api.Hitch) {
		return func() (bool, api.Hitch) { return zero, h }
	}
	var c counter
	model.CheckZero(&c, api.Adrift, call(true, api.Adrift), call(true, api.Adrift))
	if c.wrong != 0 {
		t.Error(c.wrong)
	}
	model.CheckZero(&c, api.Adrift, call(false, api.Adrift), call(true, api.Adrift), call(true, api.Smooth))
	if c.wrong != 2 {
		t.Error(c.wrong)
	}
}
