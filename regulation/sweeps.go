package regulation

import (
	"slices"

	"agraffe/api"
	"agraffe/whole"
)

const maxSweeps = 100

// sweep returns the steps behind a sweep.
func (x numbered) sweep(steps []int) []int {
	steps = slices.Clone(steps)
	for _, n := range x.order {
		if x.main[n] != noMeasure {
			steps[n] += x.more(n, steps)
		}
	}
	return steps
}

// more returns how many more steps an adjustment makes in a sweep, behind the steps so far.
func (x numbered) more(n int, steps []int) int {
	a, m, by := x.Adjustments[n], x.Measures[x.main[n]], x.by[n][x.main[n]]
	beyond := 2*x.value(x.main[n], steps) - m.Low - m.High
	cost := func(more int) [2]int { return [2]int{size(beyond + 2*by*more), size(more)} }
	best, least := 0, cost(0)
	// Of two numbers that cost the same, the lesser one comes first.
	for more := max(-a.Pass, a.Least-steps[n]); more <= min(a.Pass, a.Most-steps[n]); more++ {
		if c := cost(more); slices.Compare(c[:], least[:]) < 0 {
			best, least = more, c
		}
	}
	return best
}

// Sweep returns the steps behind a sweep (P5.8).
func Sweep(b api.Bench, steps []int) ([]int, api.Errno) {
	x, e := withSteps(b, steps)
	if e != api.OK {
		return nil, e
	}
	return x.sweep(steps), api.OK
}

// Settle returns the steps behind each sweep, up to the first one behind which nothing is broken (P5.8).
func Settle(b api.Bench, most int) ([][]int, api.Errno) {
	x, e := numberedOf(b)
	if e != api.OK {
		return nil, e
	}
	if !whole.Between(most, 0, maxSweeps) {
		return nil, api.ErrRange
	}
	var l [][]int
	steps := make([]int, len(x.Adjustments))
	for !x.settled(steps) {
		if len(l) == most {
			return nil, api.ErrNone
		}
		steps = x.sweep(steps)
		l = append(l, steps)
	}
	return l, api.OK
}

// Disturbs returns the pairs of adjustments of which the first one moves the main measure of the second one, which
// comes before it in the order (P5.8).
func Disturbs(b api.Bench) ([][2]int, api.Errno) {
	x, e := numberedOf(b)
	if e != api.OK {
		return nil, e
	}
	var pairs [][2]int
	for n := range x.order {
		before := x.order[:slices.Index(x.order, n)]
		for other, main := range x.main {
			if slices.Contains(before, other) && main != noMeasure && x.by[n][main] != 0 {
				pairs = append(pairs, [2]int{n, other})
			}
		}
	}
	return pairs, api.OK
}
