package regulation_test

import (
	"math"
	"reflect"
	"slices"
	"testing"

	"agraffe/api"
	"agraffe/regulation"
)

// P5.2: values, and what is broken.
func TestValues(t *testing.T) {
	apart := api.Bench{Measures: measures(2)}
	for _, c := range []struct {
		what           string
		b              api.Bench
		steps          []int
		values, broken []int
	}{
		{"no steps", grand(), []int{0, 0, 0}, []int{30, 5, 0}, []int{0}},
		{"the example", grand(), []int{3, 0, 0}, []int{18, 8, 0}, nil},
		{"all three", grand(), []int{3, -1, 2}, []int{18, 10, 10}, []int{1, 2}},
		{"the least", grand(), []int{-10, -3, 0}, []int{70, 1, 0}, []int{0}},
		{"the greatest", grand(), []int{10, 3, 4}, []int{-10, 9, 20}, []int{0, 1, 2}},
		{"at the upper ends", grand(), []int{3, 0, 1}, []int{18, 8, 5}, nil},
		{"at the lower end", grand(), []int{5, 3, 0}, []int{10, 4, 0}, nil},
		{"below the lower end", grand(), []int{6, 3, 0}, []int{6, 5, 0}, []int{0}},
		{"no adjustments", apart, nil, []int{0, 0}, nil},
		{"nothing", api.Bench{}, nil, nil, nil},
		{"no measures", api.Bench{Adjustments: adjustments(2, 3)}, []int{3, 1}, nil, nil},
	} {
		if l, e := regulation.Values(c.b, c.steps); !slices.Equal(l, c.values) || e != api.OK {
			t.Errorf("%s: values %v, error %d, want %v", c.what, l, e, c.values)
		}
		if l, e := regulation.Broken(c.b, c.steps); !slices.Equal(l, c.broken) || e != api.OK {
			t.Errorf("%s: broken %v, error %d, want %v", c.what, l, e, c.broken)
		}
	}
}

// wrongSteps are for the bench of the examples: the errors of steps, in their order.
func wrongSteps() map[string]struct {
	steps []int
	want  api.Errno
} {
	return map[string]struct {
		steps []int
		want  api.Errno
	}{
		"none":                     {nil, api.ErrShape},
		"too few":                  {[]int{0, 0}, api.ErrShape},
		"too many":                 {[]int{0, 0, 0, 0}, api.ErrShape},
		"too few that are wrong":   {[]int{11, 11}, api.ErrShape},
		"too many that are wrong":  {[]int{11, 11, 11, 11}, api.ErrShape},
		"the first one too great":  {[]int{11, 0, 0}, api.ErrRange},
		"the first one too little": {[]int{-11, 0, 0}, api.ErrRange},
		"the last one too great":   {[]int{0, 0, 5}, api.ErrRange},
		"the last one below 0":     {[]int{0, 0, -1}, api.ErrRange},
		"the least int":            {[]int{math.MinInt, 0, 0}, api.ErrRange},
		"the greatest int":         {[]int{0, math.MaxInt, 0}, api.ErrRange},
	}
}

// P5.2, P5.4, P5.8, P5.9: the errors of steps.
func TestErrorsOfSteps(t *testing.T) {
	for what, c := range wrongSteps() {
		l, e := regulation.Values(grand(), c.steps)
		if wantErr(t, "Values of "+what, e, c.want); len(l) > 0 {
			t.Error("Values beside an error:", l)
		}
		l, e = regulation.Broken(grand(), c.steps)
		if wantErr(t, "Broken of "+what, e, c.want); len(l) > 0 {
			t.Error("Broken beside an error:", l)
		}
		n, e := regulation.Passes(grand(), c.steps)
		if wantErr(t, "Passes of "+what, e, c.want); n != 0 {
			t.Error("Passes beside an error:", n)
		}
		plan, e := regulation.PlanOf(grand(), c.steps)
		if wantErr(t, "PlanOf of "+what, e, c.want); len(plan) > 0 {
			t.Error("PlanOf beside an error:", plan)
		}
		l, e = regulation.Sweep(grand(), c.steps)
		if wantErr(t, "Sweep of "+what, e, c.want); len(l) > 0 {
			t.Error("Sweep beside an error:", l)
		}
		b, e := regulation.Apply(grand(), c.steps)
		if wantErr(t, "Apply of "+what, e, c.want); !isNothing(b) {
			t.Error("Apply beside an error:", b)
		}
	}
}

func isNothing(b api.Bench) bool {
	return len(b.Measures)+len(b.Adjustments) == 0
}

// P5.2: values by a second calculation.
func TestRandomValues(t *testing.T) {
	r := dice()
	for range 500 {
		b := randomBench(r, room{measures: 12, adjustments: 12, value: 1000, by: 1000, steps: 1000, pass: 1000})
		steps := randomSteps(r, b)
		if l, e := regulation.Values(b, steps); !slices.Equal(l, behind(b, steps)) || e != api.OK {
			t.Fatal("values", b, steps, l, e)
		}
		if l, e := regulation.Broken(b, steps); !slices.Equal(l, brokenBehind(b, steps)) || e != api.OK {
			t.Fatal("broken", b, steps, l, e)
		}
	}
}

// P5.9: the bench behind steps.
func TestApply(t *testing.T) {
	for _, c := range []struct {
		what  string
		steps []int
		want  api.Bench
	}{
		{"no steps", []int{0, 0, 0}, grand()},
		{"the example", []int{3, 0, 0}, changed(grand(), func(b *api.Bench) {
			b.Measures[0].Value, b.Measures[1].Value = 18, 8
			b.Adjustments[0].Least, b.Adjustments[0].Most = -13, 7
		})},
		{"all that can be", []int{-10, 3, 4}, changed(grand(), func(b *api.Bench) {
			b.Measures[0].Value, b.Measures[1].Value, b.Measures[2].Value = 70, -11, 20
			b.Adjustments[0].Least, b.Adjustments[0].Most = 0, 20
			b.Adjustments[1].Least, b.Adjustments[1].Most = -6, 0
			b.Adjustments[2].Least, b.Adjustments[2].Most = -4, 0
		})},
	} {
		if b, e := regulation.Apply(grand(), c.steps); !reflect.DeepEqual(b, c.want) || e != api.OK {
			t.Errorf("%s: %v, error %d, want %v", c.what, b, e, c.want)
		}
	}
}

// P5.9: values and limits that are too great.
func TestApplyErrors(t *testing.T) {
	for _, c := range []struct {
		what string
		b    api.Bench
		step int
		want api.Errno
	}{
		{"the greatest value", single(99998, 0, 0, 1, 0, 3, 1), 2, api.OK},
		{"more than the greatest value", single(99998, 0, 0, 1, 0, 3, 1), 3, api.ErrRange},
		{"the least value", single(-99998, 0, 0, -1, 0, 3, 1), 2, api.OK},
		{"less than the least value", single(-99998, 0, 0, -1, 0, 3, 1), 3, api.ErrRange},
		{"the greatest Most", single(0, 0, 0, 1, -2, 998, 1), -2, api.OK},
		{"more than the greatest Most", single(0, 0, 0, 1, -3, 998, 1), -3, api.ErrRange},
		{"the least Least", single(0, 0, 0, 1, -998, 3, 1), 2, api.OK},
		{"less than the least Least", single(0, 0, 0, 1, -998, 3, 1), 3, api.ErrRange},
	} {
		b, e := regulation.Apply(c.b, []int{c.step})
		wantErr(t, c.what, e, c.want)
		if e != api.OK && !isNothing(b) {
			t.Errorf("%s: %v beside an error", c.what, b)
		}
		if e == api.OK && regulation.CheckBench(b) != api.OK {
			t.Errorf("%s: %v is no bench", c.what, b)
		}
	}
}

// P5.13: Apply of steps, and then of more steps, is Apply of both together.
func TestApplyTwice(t *testing.T) {
	r := dice()
	for range 500 {
		b := randomBench(r, room{measures: 5, adjustments: 5, value: 100000, by: 1000, steps: 1000, pass: 9})
		steps := randomSteps(r, b)
		once, e := regulation.Apply(b, steps)
		if e != api.OK {
			continue
		}
		more := randomSteps(r, once)
		twice, e := regulation.Apply(once, more)
		for n := range more {
			more[n] += steps[n]
		}
		if want, wantE := regulation.Apply(b, more); !reflect.DeepEqual(twice, want) || e != wantE {
			t.Fatal(b, steps, more, twice, e, want, wantE)
		}
	}
}
