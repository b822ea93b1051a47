package sets_test

import (
	"slices"
	"testing"

	"agraffe/api"
	"agraffe/sets"
)

func TestSets(t *testing.T) {
	for _, want := range [][]int{nil, {0}, {63}, {0, 63}, {1, 2, 5, 31, 32, 33, 62}} {
		s := sets.Of(want)
		if got := s.List(); !slices.Equal(got, want) || s.Size() != len(want) {
			t.Errorf("%v, size %d, want %v", got, s.Size(), want)
		}
		for n := range 64 {
			if s.Has(n) != slices.Contains(want, n) {
				t.Errorf("%v has %d: %t", want, n, s.Has(n))
			}
		}
	}
	for _, size := range []int{0, 1, 5, 63, 64} {
		l := sets.Below(size).List()
		if len(l) != size || size > 0 && (l[0] != 0 || l[size-1] != size-1) {
			t.Errorf("below %d: %v", size, l)
		}
	}
	for n := range sets.Below(9).All() {
		if n == 4 {
			break
		}
		if n > 4 {
			t.Error("the loop goes on behind its break")
		}
	}
}

func TestLists(t *testing.T) {
	small := func(n int) bool { return n < 10 }
	for _, c := range []struct {
		l    []int
		want api.Errno
	}{
		{nil, api.OK},
		{[]int{3}, api.OK},
		{[]int{-1, 0, 9}, api.OK},
		{[]int{3, 3}, api.ErrOrder},
		{[]int{3, 4, 2}, api.ErrOrder},
		{[]int{10}, api.ErrMissing},
		{[]int{4, 3, 10}, api.ErrMissing},
	} {
		if e := sets.ListError(c.l, small); e != c.want {
			t.Errorf("%v: error %d, want %d", c.l, e, c.want)
		}
	}
	if !sets.Ascends([]string{"B", "a", "aa", "b"}) || sets.Ascends([]string{"a", "B"}) || sets.Ascends([]string{"a", "a"}) {
		t.Error("texts")
	}
}
