package regulation

import (
	"slices"

	"agraffe/api"
	"agraffe/whole"
)

// CheckPass accepts a pass, or returns the number of the first wrong step (P5.3).
func CheckPass(b api.Bench, pass []api.Step) (int, api.Errno) {
	x, e := numberedOf(b)
	if e != api.OK {
		return 0, e
	}
	return x.passError(pass)
}

func (x numbered) passError(pass []api.Step) (int, api.Errno) {
	if len(pass) > api.MaxAdjustments {
		return 0, api.ErrLarge
	}
	for n, s := range pass {
		if e := x.stepError(s, pass[:n], pass[n+1:]); e != api.OK {
			return n, e
		}
	}
	return 0, api.OK
}

// stepError is for a step between earlier and later ones of its pass.
func (x numbered) stepError(s api.Step, earlier, later []api.Step) api.Errno {
	ofSame := func(other api.Step) bool { return other.Adjustment == s.Adjustment }
	comesBefore := func(other api.Step) bool { return slices.Contains(x.after[s.Adjustment], other.Adjustment) }
	switch {
	case !whole.Between(s.Adjustment, 0, len(x.Adjustments)-1):
		return api.ErrMissing
	case slices.ContainsFunc(earlier, ofSame):
		return api.ErrExists
	case s.Steps == 0:
		return api.ErrZero
	case !whole.Within(s.Steps, x.Adjustments[s.Adjustment].Pass):
		return api.ErrRange
	case slices.ContainsFunc(later, comesBefore):
		return api.ErrOrder
	}
	return api.OK
}

// Sums returns the sums of a plan's steps, or the number of the first wrong pass (P5.3).
func Sums(b api.Bench, plan [][]api.Step) ([]int, int, api.Errno) {
	x, e := numberedOf(b)
	if e != api.OK {
		return nil, 0, e
	}
	return x.sums(plan)
}

func (x numbered) sums(plan [][]api.Step) ([]int, int, api.Errno) {
	if len(plan) > api.MaxPasses {
		return nil, 0, api.ErrLarge
	}
	sums := make([]int, len(x.Adjustments))
	for n, pass := range plan {
		if _, e := x.passError(pass); e != api.OK {
			return nil, n, e
		}
		for _, s := range pass {
			sums[s.Adjustment] += s.Steps
		}
		if e := x.stepsError(sums); e != api.OK {
			return nil, n, e
		}
	}
	return sums, 0, api.OK
}

// CheckPlan accepts a plan behind which nothing is broken, or returns the number of the first wrong pass, or of the
// first broken measure (P5.3).
func CheckPlan(b api.Bench, plan [][]api.Step) (int, api.Errno) {
	x, e := numberedOf(b)
	if e != api.OK {
		return 0, e
	}
	sums, pass, e := x.sums(plan)
	if e != api.OK {
		return pass, e
	}
	for measure := range x.broken(sums) {
		return measure, api.ErrBreak
	}
	return 0, api.OK
}

// passes returns how many are needed for steps.
func (x numbered) passes(steps []int) int {
	passes := 0
	for n, a := range x.Adjustments {
		passes = max(passes, whole.Up(size(steps[n]), a.Pass))
	}
	return passes
}

// size takes a number that is more than the least int.
func size(n int) int {
	return max(n, -n)
}

// withPasses is for functions with steps for which a plan is made.
func withPasses(b api.Bench, steps []int) (numbered, int, api.Errno) {
	x, e := withSteps(b, steps)
	if e != api.OK {
		return numbered{}, 0, e
	}
	passes := x.passes(steps)
	if passes > api.MaxPasses {
		return numbered{}, 0, api.ErrLarge
	}
	return x, passes, api.OK
}

// Passes returns the fewest passes for steps (P5.4).
func Passes(b api.Bench, steps []int) (int, api.Errno) {
	_, passes, e := withPasses(b, steps)
	return passes, e
}

// PlanOf returns the plan of steps (P5.4).
func PlanOf(b api.Bench, steps []int) ([][]api.Step, api.Errno) {
	x, passes, e := withPasses(b, steps)
	if e != api.OK {
		return nil, e
	}
	left := slices.Clone(steps)
	plan := make([][]api.Step, passes)
	for p := range plan {
		for _, n := range x.order {
			if left[n] == 0 {
				continue
			}
			most := x.Adjustments[n].Pass
			now := min(max(left[n], -most), most)
			plan[p] = append(plan[p], api.Step{Adjustment: n, Steps: now})
			left[n] -= now
		}
	}
	return plan, api.OK
}
