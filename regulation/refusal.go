package regulation

import (
	"slices"

	"agraffe/api"
	"agraffe/whole"
)

const (
	maxWeight  = 100 // weights of a proof, in size
	maxWeighed = 6   // measures of which all proofs with weights from -1 to 1 are tried
)

// span returns the range from the lesser one of two numbers to the greater one.
func span(a, b int) [2]int {
	return [2]int{min(a, b), max(a, b)}
}

// sum adds ranges.
func sum(terms ...[2]int) [2]int {
	total := [2]int{}
	for _, r := range terms {
		total[0] += r[0]
		total[1] += r[1]
	}
	return total
}

// areApart tells whether two ranges have no number in common.
func areApart(a, b [2]int) bool {
	return a[1] < b[0] || b[1] < a[0]
}

// reached returns the range of the sum of weight times value.
func (x numbered) reached(weights []int) [2]int {
	var terms [][2]int
	for n, m := range x.Measures {
		at := weights[n] * m.Value
		terms = append(terms, [2]int{at, at})
	}
	for n, a := range x.Adjustments {
		step := 0
		for measure, by := range x.by[n] {
			step += weights[measure] * by
		}
		terms = append(terms, span(step*a.Least, step*a.Most))
	}
	return sum(terms...)
}

// tolerated returns the range of the sum of weight times tolerance.
func (x numbered) tolerated(weights []int) [2]int {
	var terms [][2]int
	for n, m := range x.Measures {
		terms = append(terms, span(weights[n]*m.Low, weights[n]*m.High))
	}
	return sum(terms...)
}

func (x numbered) prove(weights []int) bool {
	return areApart(x.reached(weights), x.tolerated(weights))
}

// alone returns weights of a measure alone: with them sums are of its own values.
func (x numbered) alone(measure int) []int {
	weights := make([]int, len(x.Measures))
	weights[measure] = 1
	return weights
}

// Reach returns the range of a measure (P5.6).
func Reach(b api.Bench, measure int) ([2]int, api.Errno) {
	x, e := numberedOf(b)
	if e != api.OK {
		return [2]int{}, e
	}
	if !whole.Between(measure, 0, len(x.Measures)-1) {
		return [2]int{}, api.ErrMissing
	}
	return x.reached(x.alone(measure)), api.OK
}

// OutOfReach returns the measures that no steps bring in (P5.6).
func OutOfReach(b api.Bench) ([]int, api.Errno) {
	x, e := numberedOf(b)
	if e != api.OK {
		return nil, e
	}
	var l []int
	for n := range x.Measures {
		if x.prove(x.alone(n)) {
			l = append(l, n)
		}
	}
	return l, api.OK
}

// CheckRefusal accepts a proof that no steps bring all measures in (P5.7).
func CheckRefusal(b api.Bench, weights []int) api.Errno {
	x, e := numberedOf(b)
	if e != api.OK {
		return e
	}
	isGreat := func(weight int) bool { return !whole.Within(weight, maxWeight) }
	switch {
	case len(weights) != len(x.Measures):
		return api.ErrShape
	case slices.ContainsFunc(weights, isGreat):
		return api.ErrRange
	case !x.prove(weights):
		return api.ErrProof
	}
	return api.OK
}

// Refusal returns the proof with weights from -1 to 1 of which the fewest are other than 0 (P5.7).
func Refusal(b api.Bench) ([]int, api.Errno) {
	x, e := numberedOf(b)
	if e != api.OK {
		return nil, e
	}
	if len(x.Measures) > maxWeighed {
		return nil, api.ErrLarge
	}
	var best []int
	fewest := maxWeighed + 1
	for weights := range every(slices.Repeat([][2]int{{-1, 1}}, len(x.Measures))) {
		if count := countOf(weights); count < fewest && x.prove(weights) {
			best, fewest = slices.Clone(weights), count
		}
	}
	if best == nil {
		return nil, api.ErrNone
	}
	return best, api.OK
}

// countOf returns how many weights are other than 0.
func countOf(weights []int) int {
	count := 0
	for _, w := range weights {
		count += size(w)
	}
	return count
}
