package regulation_test

import (
	"math"
	"math/rand/v2"
	"slices"
	"testing"

	"agraffe/api"
	"agraffe/regulation"
)

// P5.3: passes, and the order of their errors.
func TestCheckPass(t *testing.T) {
	both := changed(grand(), func(b *api.Bench) { b.Adjustments[2].After = []string{"screw", "button"} })
	far := changed(grand(), func(b *api.Bench) { b.Adjustments[2].After = []string{"screw"} })
	full := api.Bench{Adjustments: adjustments(12, 1)}
	var twelve []api.Step
	for n := range 12 {
		twelve = append(twelve, step(n, 1))
	}
	for _, c := range []struct {
		what string
		b    api.Bench
		pass []api.Step
		n    int
		want api.Errno
	}{
		{"no steps", grand(), nil, 0, api.OK},
		{"one step", grand(), []api.Step{step(1, -1)}, 0, api.OK},
		{"all, in the order", grand(), []api.Step{step(0, -2), step(1, 1), step(2, 4)}, 0, api.OK},
		{"another one between", grand(), []api.Step{step(2, 4), step(0, 2), step(1, -1)}, 0, api.OK},
		{"12 steps", full, twelve, 0, api.OK},
		{"13 steps", full, append(slices.Clone(twelve), step(12, 1)), 0, api.ErrLarge},
		{"13 steps, of which the first one is wrong", full, append([]api.Step{step(-1, 0)}, twelve...), 0, api.ErrLarge},
		{"no such adjustment", grand(), []api.Step{step(0, 1), step(3, 1)}, 1, api.ErrMissing},
		{"an adjustment below 0", grand(), []api.Step{step(-1, 1)}, 0, api.ErrMissing},
		{"no such adjustment twice", grand(), []api.Step{step(9, 1), step(9, 1)}, 0, api.ErrMissing},
		{"no such adjustment, of no steps", grand(), []api.Step{step(9, 0)}, 0, api.ErrMissing},
		{"the least adjustment", grand(), []api.Step{step(math.MinInt, 1)}, 0, api.ErrMissing},
		{"no adjustments", api.Bench{}, []api.Step{step(0, 1)}, 0, api.ErrMissing},
		{"an adjustment twice", grand(), []api.Step{step(0, 1), step(2, 1), step(0, 1)}, 2, api.ErrExists},
		{"an adjustment twice, ahead of 0 steps", grand(), []api.Step{step(0, 1), step(0, 0)}, 1, api.ErrExists},
		{"an adjustment twice, ahead of too many steps", grand(), []api.Step{step(0, 1), step(0, 3)}, 1, api.ErrExists},
		{"0 steps", grand(), []api.Step{step(0, 1), step(1, 0)}, 1, api.ErrZero},
		{"0 steps, ahead of the order", grand(), []api.Step{step(1, 0), step(0, 1)}, 0, api.ErrZero},
		{"too many steps", grand(), []api.Step{step(0, 3)}, 0, api.ErrRange},
		{"too many steps back", grand(), []api.Step{step(2, 4), step(0, -3)}, 1, api.ErrRange},
		{"the least steps", grand(), []api.Step{step(0, math.MinInt)}, 0, api.ErrRange},
		{"too many steps, ahead of the order", grand(), []api.Step{step(1, 2), step(0, 1)}, 0, api.ErrRange},
		{"more than all its steps, in a pass", single(0, 0, 0, 1, 0, 2, 5), []api.Step{step(0, 5)}, 0, api.OK},
		{"a wrong order", grand(), []api.Step{step(2, 4), step(1, 1), step(0, 2)}, 1, api.ErrOrder},
		{"a wrong order, with another one between", grand(), []api.Step{step(1, 1), step(2, 4), step(0, 2)}, 0, api.ErrOrder},
		{"a wrong order, ahead of a later step's error", grand(), []api.Step{step(1, 1), step(0, 0)}, 0, api.ErrOrder},
		{"a later step that is none, behind a right order", grand(), []api.Step{step(1, 1), step(3, 2)}, 1, api.ErrMissing},
		{"behind the second one of its After", both, []api.Step{step(2, 1), step(0, 1)}, 0, api.ErrOrder},
		{"behind the first one of its After", both, []api.Step{step(2, 1), step(1, 1)}, 0, api.ErrOrder},
		{"only what After names counts", far, []api.Step{step(2, 1), step(0, 1)}, 0, api.OK},
	} {
		n, e := regulation.CheckPass(c.b, c.pass)
		if n != c.n || e != c.want {
			t.Errorf("%s: step %d, error %d, want %d, error %d", c.what, n, e, c.n, c.want)
		}
	}
}

type planCase struct {
	what string
	plan [][]api.Step
	n    int
	want api.Errno
}

// wrongPlans are for the bench of the examples.
func wrongPlans() []planCase {
	there, back := []api.Step{step(0, 1)}, []api.Step{step(0, -1)}
	return []planCase{
		{"51 passes", slices.Repeat([][]api.Step{nil}, 51), 0, api.ErrLarge},
		{"51 passes, all of them wrong", slices.Repeat([][]api.Step{{step(3, 1)}}, 51), 0, api.ErrLarge},
		{"a wrong pass", [][]api.Step{there, back, {step(0, 3)}}, 2, api.ErrRange},
		{"a wrong order", [][]api.Step{there, {step(1, 1), step(0, 1)}}, 1, api.ErrOrder},
		{"no such adjustment", [][]api.Step{nil, {step(2, 4), step(3, 1)}}, 1, api.ErrMissing},
		{"an adjustment twice", [][]api.Step{{step(0, 1), step(0, 1)}}, 0, api.ErrExists},
		{"0 steps", [][]api.Step{there, {step(0, 0)}}, 1, api.ErrZero},
		{"a large pass", [][]api.Step{there, make([]api.Step, 13)}, 1, api.ErrLarge},
		{"sums above", [][]api.Step{{step(2, 4)}, {step(2, 1)}}, 1, api.ErrRange},
		{"sums below", [][]api.Step{there, {step(1, -1)}, {step(1, -1)}, {step(1, -1)}, {step(1, -1)}}, 4, api.ErrRange},
		{"sums below 0", [][]api.Step{{step(2, -1)}}, 0, api.ErrRange},
		{"sums that come back", [][]api.Step{{step(2, 4)}, {step(2, 1)}, {step(2, -1)}}, 1, api.ErrRange},
		{"sums ahead of a later pass", [][]api.Step{{step(2, 4)}, {step(2, 1)}, {step(3, 1)}}, 1, api.ErrRange},
		{"a pass ahead of its sums", [][]api.Step{{step(2, 4)}, {step(2, 1), step(3, 1)}}, 1, api.ErrMissing},
	}
}

// P5.3: sums of plans, and the order of errors.
func TestSums(t *testing.T) {
	for _, c := range []struct {
		what string
		plan [][]api.Step
		want []int
	}{
		{"no passes", nil, []int{0, 0, 0}},
		{"passes without steps", [][]api.Step{nil, {}}, []int{0, 0, 0}},
		{"two passes", [][]api.Step{{step(0, 2), step(1, -1)}, {step(0, 1), step(1, -1)}}, []int{3, -2, 0}},
		{"there and back", [][]api.Step{{step(1, 1)}, {step(2, 4), step(1, -1)}, {step(2, -4)}}, []int{0, 0, 0}},
		{"up to the ends", [][]api.Step{{step(1, -1)}, {step(1, -1)}, {step(1, -1), step(2, 4)}}, []int{0, -3, 4}},
		{"50 passes", slices.Repeat([][]api.Step{{step(0, 2)}, {step(0, -2)}}, 25), []int{0, 0, 0}},
	} {
		l, n, e := regulation.Sums(grand(), c.plan)
		if !slices.Equal(l, c.want) || n != 0 || e != api.OK {
			t.Errorf("%s: %v, pass %d, error %d, want %v", c.what, l, n, e, c.want)
		}
	}
	for _, c := range wrongPlans() {
		l, n, e := regulation.Sums(grand(), c.plan)
		if len(l) > 0 || n != c.n || e != c.want {
			t.Errorf("%s: %v, pass %d, error %d, want %d, error %d", c.what, l, n, e, c.n, c.want)
		}
	}
}

// P5.3: plans behind which nothing is broken.
func TestCheckPlan(t *testing.T) {
	for _, c := range append(wrongPlans(), []planCase{
		{"the example", [][]api.Step{{step(0, 2)}, {step(0, 1)}}, 0, api.OK},
		{"the other way round", [][]api.Step{{step(0, 1)}, {step(0, 2)}}, 0, api.OK},
		{"something is broken on the way", [][]api.Step{{step(2, 4)}, {step(0, 2)}, {step(0, 1), step(2, -4)}}, 0, api.OK},
		{"no passes", nil, 0, api.ErrBreak},
		{"the first broken measure", [][]api.Step{{step(0, 2), step(1, -1)}, {step(0, 1), step(2, 2)}}, 1, api.ErrBreak},
		{"the last measure", [][]api.Step{{step(0, 2)}, {step(0, 1), step(2, 2)}}, 2, api.ErrBreak},
		{"a broken measure, and a wrong pass", [][]api.Step{{step(2, 4)}, {step(9, 1)}}, 1, api.ErrMissing},
	}...) {
		n, e := regulation.CheckPlan(grand(), c.plan)
		if n != c.n || e != c.want {
			t.Errorf("%s: %d, error %d, want %d, error %d", c.what, n, e, c.n, c.want)
		}
	}
	if n, e := regulation.CheckPlan(api.Bench{}, nil); n != 0 || e != api.OK {
		t.Error("nothing:", n, e)
	}
}

// P5.4: the fewest passes, and plans.
func TestPlanOf(t *testing.T) {
	turned := changed(grand(), func(b *api.Bench) { b.Adjustments[0].After = []string{"check"} })
	for _, c := range []struct {
		what  string
		b     api.Bench
		steps []int
		want  [][]api.Step
	}{
		{"no steps", grand(), []int{0, 0, 0}, nil},
		{"nothing", api.Bench{}, nil, nil},
		{"the example", grand(), []int{3, 0, 0}, [][]api.Step{{step(0, 2)}, {step(0, 1)}}},
		{"two adjustments", grand(), []int{3, -2, 0}, [][]api.Step{{step(0, 2), step(1, -1)}, {step(0, 1), step(1, -1)}}},
		{"one ends early", grand(), []int{-5, 1, 4}, [][]api.Step{{step(0, -2), step(1, 1), step(2, 4)}, {step(0, -2)}, {step(0, -1)}}},
		{"one pass that is full", grand(), []int{2, 0, 0}, [][]api.Step{{step(0, 2)}}},
		{"one step more than a pass", grand(), []int{-3, 0, 1}, [][]api.Step{{step(0, -2), step(2, 1)}, {step(0, -1)}}},
		{"another order", turned, []int{3, 1, 4}, [][]api.Step{{step(2, 4), step(0, 2), step(1, 1)}, {step(0, 1)}}},
		{"a pass with room for more than all", single(0, 0, 0, 1, -2, 2, 1000), []int{-2}, [][]api.Step{{step(0, -2)}}},
		{"50 passes", single(0, 0, 0, 1, 0, 50, 1), []int{50}, slices.Repeat([][]api.Step{{step(0, 1)}}, 50)},
		{"50 passes back", single(0, 0, 0, 1, -1000, 0, 20), []int{-1000}, slices.Repeat([][]api.Step{{step(0, -20)}}, 50)},
	} {
		plan, e := regulation.PlanOf(c.b, c.steps)
		if !equalPlans(plan, c.want) || e != api.OK {
			t.Errorf("%s: %v, error %d, want %v", c.what, plan, e, c.want)
		}
		if n, e := regulation.Passes(c.b, c.steps); n != len(c.want) || e != api.OK {
			t.Errorf("%s: %d passes, error %d, want %d", c.what, n, e, len(c.want))
		}
	}
}

// P5.4: more than 50 passes.
func TestTooManyPasses(t *testing.T) {
	for _, c := range []struct {
		b     api.Bench
		steps int
	}{
		{single(0, 0, 0, 1, 0, 51, 1), 51},
		{single(0, 0, 0, 1, -1000, 0, 19), -951},
		{single(0, 0, 0, 1, -1000, 0, 1), -1000},
	} {
		n, e := regulation.Passes(c.b, []int{c.steps})
		if wantErr(t, "Passes", e, api.ErrLarge); n != 0 {
			t.Error("passes beside an error:", n)
		}
		plan, e := regulation.PlanOf(c.b, []int{c.steps})
		if wantErr(t, "PlanOf", e, api.ErrLarge); len(plan) > 0 {
			t.Error("a plan beside an error:", plan)
		}
	}
}

// shuffled returns a plan with its passes in another order, and their steps too where After allows it.
func shuffled(r *rand.Rand, b api.Bench, plan [][]api.Step) [][]api.Step {
	var l [][]api.Step
	for _, n := range r.Perm(len(plan)) {
		pass := slices.Clone(plan[n])
		r.Shuffle(len(pass), func(i, j int) { pass[i], pass[j] = pass[j], pass[i] })
		if _, e := regulation.CheckPass(b, pass); e != api.OK {
			pass = plan[n]
		}
		l = append(l, pass)
	}
	return l
}

// P5.11: a plan of steps has these as its sums, in any order of passes and steps, and as many passes as are needed.
func TestPlansOfSteps(t *testing.T) {
	r := dice()
	for range 500 {
		b := randomBench(r, room{measures: 4, adjustments: 6, value: 50, by: 9, steps: 40, pass: 6})
		steps := randomSteps(r, b)
		plan, e := regulation.PlanOf(b, steps)
		passes, e2 := regulation.Passes(b, steps)
		if e != api.OK || e2 != api.OK || len(plan) != passes || passes != passesFor(b, steps) {
			t.Fatal(b, steps, plan, e, passes, e2)
		}
		for _, p := range [][][]api.Step{plan, shuffled(r, b, plan)} {
			sums, n, e := regulation.Sums(b, p)
			if !slices.Equal(sums, steps) || n != 0 || e != api.OK {
				t.Fatal(b, steps, p, sums, n, e)
			}
			broken := brokenBehind(b, steps)
			n, e = regulation.CheckPlan(b, p)
			if len(broken) == 0 && (n != 0 || e != api.OK) || len(broken) > 0 && (n != broken[0] || e != api.ErrBreak) {
				t.Fatal(b, steps, p, n, e, broken)
			}
		}
	}
}

// randomPlan has passes that each keep the order.
func randomPlan(r *rand.Rand, b api.Bench, passes int) [][]api.Step {
	order, _ := regulation.Order(b)
	var plan [][]api.Step
	for range passes {
		var pass []api.Step
		for _, n := range order {
			if steps := from(r, -b.Adjustments[n].Pass, b.Adjustments[n].Pass); steps != 0 {
				pass = append(pass, step(n, steps))
			}
		}
		plan = append(plan, pass)
	}
	return plan
}

// P5.11: no plan with these sums has fewer passes.
func TestNoPlanHasFewerPasses(t *testing.T) {
	r := dice()
	accepted := 0
	for range 3000 {
		b := randomBench(r, room{measures: 1, adjustments: 3, value: 5, by: 2, steps: 9, pass: 2})
		plan := randomPlan(r, b, r.IntN(5))
		sums, _, e := regulation.Sums(b, plan)
		if e != api.OK {
			continue
		}
		accepted++
		if n, e := regulation.Passes(b, sums); n > len(plan) || e != api.OK {
			t.Fatal(b, plan, n, e)
		}
	}
	if accepted < 500 {
		t.Error("only", accepted, "plans")
	}
}
