package regulation

import (
	"iter"
	"slices"

	"agraffe/api"
	"agraffe/whole"
)

// withSteps is for functions with a bench and steps.
func withSteps(b api.Bench, steps []int) (numbered, api.Errno) {
	x, e := numberedOf(b)
	if e != api.OK {
		return numbered{}, e
	}
	return x, x.stepsError(steps)
}

func (x numbered) stepsError(steps []int) api.Errno {
	if len(steps) != len(x.Adjustments) {
		return api.ErrShape
	}
	for n, a := range x.Adjustments {
		if !whole.Between(steps[n], a.Least, a.Most) {
			return api.ErrRange
		}
	}
	return api.OK
}

// value returns that of a measure behind steps.
func (x numbered) value(measure int, steps []int) int {
	value := x.Measures[measure].Value
	for n, by := range x.by {
		value += by[measure] * steps[n]
	}
	return value
}

// broken yields the numbers of the measures that are broken behind steps, ascending.
func (x numbered) broken(steps []int) iter.Seq[int] {
	return func(yield func(int) bool) {
		for n, m := range x.Measures {
			if !whole.Between(x.value(n, steps), m.Low, m.High) && !yield(n) {
				return
			}
		}
	}
}

// settled tells whether nothing is broken behind steps.
func (x numbered) settled(steps []int) bool {
	for range x.broken(steps) {
		return false
	}
	return true
}

// Values returns the values behind steps (P5.2).
func Values(b api.Bench, steps []int) ([]int, api.Errno) {
	x, e := withSteps(b, steps)
	if e != api.OK {
		return nil, e
	}
	values := make([]int, len(x.Measures))
	for n := range values {
		values[n] = x.value(n, steps)
	}
	return values, api.OK
}

// Broken returns the measures that are broken behind steps (P5.2).
func Broken(b api.Bench, steps []int) ([]int, api.Errno) {
	x, e := withSteps(b, steps)
	if e != api.OK {
		return nil, e
	}
	return slices.Collect(x.broken(steps)), api.OK
}

// Apply returns the bench behind steps (P5.9).
func Apply(b api.Bench, steps []int) (api.Bench, api.Errno) {
	x, e := withSteps(b, steps)
	if e != api.OK {
		return api.Bench{}, e
	}
	behind := api.Bench{Measures: slices.Clone(x.Measures), Adjustments: slices.Clone(x.Adjustments)}
	for n := range behind.Measures {
		value := x.value(n, steps)
		if !whole.Within(value, maxValue) {
			return api.Bench{}, api.ErrRange
		}
		behind.Measures[n].Value = value
	}
	for n := range behind.Adjustments {
		a := &behind.Adjustments[n]
		a.Least, a.Most = a.Least-steps[n], a.Most-steps[n]
		if limitsError(*a) != api.OK {
			return api.Bench{}, api.ErrRange
		}
		a.Effects, a.After = slices.Clone(a.Effects), slices.Clone(a.After)
	}
	return behind, api.OK
}
