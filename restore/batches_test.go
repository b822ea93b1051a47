package restore_test

import (
	"math"
	"slices"
	"testing"

	"agraffe/api"
	"agraffe/restore"
)

// P8.8: known amounts.
func TestKnownSplits(t *testing.T) {
	for _, c := range []struct {
		what    string
		total   int
		weights []int
		want    []int
	}{
		{"the example", 10, []int{1, 1, 1}, []int{4, 3, 3}},
		{"the greatest remainder", 7, []int{5, 3, 2}, []int{4, 2, 1}},
		{"the greatest remainders are the last ones", 5, []int{10, 12, 15, 23}, []int{1, 1, 1, 2}},
		{"two cents left", 11, []int{1, 1, 1}, []int{4, 4, 3}},
		{"equal remainders behind a lesser one", 10, []int{2, 3, 3}, []int{2, 4, 4}},
		{"nothing left", 12, []int{1, 2, 3}, []int{2, 4, 6}},
		{"nothing", 0, []int{3, 4}, []int{0, 0}},
		{"one", 1000000000000, []int{1}, []int{1000000000000}},
		{"weights of 0", 5, []int{0, 1, 0, 1, 0}, []int{0, 3, 0, 2, 0}},
		{"all but one of 0", 5, []int{0, 0, 1000000}, []int{0, 0, 5}},
		{"less than there are weights", 2, []int{1, 1, 1, 1}, []int{1, 1, 0, 0}},
		{"the greatest amount and weights", 1000000000000, []int{1000000, 1000000, 999999}, []int{333333444445, 333333444444, 333333111111}},
		{"60 weights", 61, slices.Repeat([]int{1000000}, 60), append([]int{2}, slices.Repeat([]int{1}, 59)...)},
	} {
		got, e := restore.Split(c.total, c.weights)
		wantList(t, c.what, got, e, c.want...)
	}
}

// P8.8: errors, in order.
func TestErrorsOfSplit(t *testing.T) {
	for _, c := range []struct {
		what    string
		total   int
		weights []int
		want    api.Errno
	}{
		{"an amount below 0", -1, []int{1}, api.ErrRange},
		{"an amount above", 1000000000001, []int{1}, api.ErrRange},
		{"an amount ahead of no weights", -1, nil, api.ErrRange},
		{"no weights", 1, nil, api.ErrShape},
		{"61 weights", 1, slices.Repeat([]int{1}, 61), api.ErrLarge},
		{"61 weights below 0", 1, slices.Repeat([]int{-1}, 61), api.ErrLarge},
		{"a weight below 0", 1, []int{1, -1}, api.ErrRange},
		{"a weight above", 1, []int{1, 1000001}, api.ErrRange},
		{"the greatest int", 1, []int{math.MaxInt, math.MaxInt}, api.ErrRange},
		{"weights that would be 0 together", 1, []int{1, -1}, api.ErrRange},
		{"a weight of 0", 1, []int{0}, api.ErrZero},
		{"weights of 0", 0, []int{0, 0, 0}, api.ErrZero},
		{"61 weights of 0", 0, make([]int, 61), api.ErrLarge},
	} {
		got, e := restore.Split(c.total, c.weights)
		wantOnly(t, c.what, got, e, c.want)
	}
}

// P8.8, P8.11: shares add up to the amount; none is further from its own than a cent, and who has one of the cents that
// were left has a greater remainder than who has none, or the same and stands ahead.
func TestSplits(t *testing.T) {
	r := dice()
	for range 500 {
		total, most := from(r, 0, []int{9, 1000, 1000000000000}[r.IntN(3)]), []int{3, 1000000}[r.IntN(2)]
		weights := []int{from(r, 1, most)}
		for range from(r, 0, []int{4, 59}[r.IntN(2)]) {
			weights = append(weights, from(r, 0, most))
		}
		weights = shuffled(r, weights)
		sum, all := 0, 0
		for _, w := range weights {
			sum += w
		}
		shares, e := restore.Split(total, weights)
		if e != api.OK || len(shares) != len(weights) {
			t.Fatal(total, weights, shares, e)
		}
		rest := func(n int) int { return total * weights[n] % sum }
		more := func(n int) int { return shares[n] - total*weights[n]/sum }
		for n := range shares {
			all += shares[n]
			if more(n) != 0 && more(n) != 1 {
				t.Fatal(total, weights, shares)
			}
			for other := range shares {
				ahead := rest(n) > rest(other) || rest(n) == rest(other) && n < other
				if ahead && more(n) < more(other) {
					t.Fatal(total, weights, shares, n, other)
				}
			}
		}
		if all != total {
			t.Fatal(total, weights, shares, all)
		}
	}
}
