package regulation

import (
	"iter"
	"slices"

	"agraffe/api"
)

// every yields all lists of numbers within limits, ascending. The lists share their memory: who keeps one copies it.
func every(limits [][2]int) iter.Seq[[]int] {
	return func(yield func([]int) bool) {
		l := make([]int, len(limits))
		for n, r := range limits {
			l[n] = r[0]
		}
		for yield(l) && goOn(l, limits) {
		}
	}
}

// goOn makes a list the next one within limits, and tells whether there is one.
func goOn(l []int, limits [][2]int) bool {
	for n, r := range slices.Backward(limits) {
		if l[n] < r[1] {
			l[n]++
			return true
		}
		l[n] = r[0]
	}
	return false
}

// everySteps yields all steps that the adjustments allow.
func (x numbered) everySteps(yield func([]int) bool) {
	limits := make([][2]int, len(x.Adjustments))
	for n, a := range x.Adjustments {
		limits[n] = [2]int{a.Least, a.Most}
	}
	every(limits)(yield)
}

// isLarge tells whether there are more steps than are tried.
// It stops at the first product that is too great: no further one is less, and it might be no int.
func (x numbered) isLarge() bool {
	tries := 1
	for _, a := range x.Adjustments {
		if tries *= a.Most - a.Least + 1; tries > api.MaxTries {
			return true
		}
	}
	return false
}

// cost is what steps are chosen by: their passes, then the sum of their sizes.
func (x numbered) cost(steps []int) [2]int {
	cost := [2]int{x.passes(steps), 0}
	for _, s := range steps {
		cost[1] += size(s)
	}
	return cost
}

// Fewest returns the steps behind which nothing is broken that need the fewest passes, and these (P5.5).
func Fewest(b api.Bench) ([]int, int, api.Errno) {
	x, e := numberedOf(b)
	if e != api.OK {
		return nil, 0, e
	}
	if x.isLarge() {
		return nil, 0, api.ErrLarge
	}
	var best []int
	var least [2]int
	found := false
	for steps := range x.everySteps {
		cost := x.cost(steps)
		if (!found || slices.Compare(cost[:], least[:]) < 0) && x.settled(steps) {
			best, least, found = slices.Clone(steps), cost, true
		}
	}
	if !found {
		return nil, 0, api.ErrNone
	}
	return best, least[0], api.OK
}
