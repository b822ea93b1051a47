package regulation_test

import (
	"math"
	"reflect"
	"slices"
	"testing"

	"agraffe/api"
	"agraffe/regulation"
)

// R1: the errors of a bench come ahead of those of other arguments, and beside them there is nothing.
func TestErrorsOfBenches(t *testing.T) {
	wrongSteps, wrongPlan := []int{99}, slices.Repeat([][]api.Step{{step(9, 9)}}, 99)
	for want, b := range badBenches() {
		wantErr(t, "CheckBench", regulation.CheckBench(b), want)
		wantErr(t, "CheckRefusal", regulation.CheckRefusal(b, []int{999}), want)
		lists := func(what string, call func() ([]int, api.Errno)) {
			l, e := call()
			if wantErr(t, what, e, want); len(l) > 0 {
				t.Errorf("%s: %v beside an error", what, l)
			}
		}
		lists("Order", func() ([]int, api.Errno) { return regulation.Order(b) })
		lists("Values", func() ([]int, api.Errno) { return regulation.Values(b, wrongSteps) })
		lists("Broken", func() ([]int, api.Errno) { return regulation.Broken(b, wrongSteps) })
		lists("OutOfReach", func() ([]int, api.Errno) { return regulation.OutOfReach(b) })
		lists("Refusal", func() ([]int, api.Errno) { return regulation.Refusal(b) })
		lists("Sweep", func() ([]int, api.Errno) { return regulation.Sweep(b, wrongSteps) })
		numbers := func(what string, call func() (int, api.Errno)) {
			n, e := call()
			if wantErr(t, what, e, want); n != 0 {
				t.Errorf("%s: %d beside an error", what, n)
			}
		}
		numbers("CheckPass", func() (int, api.Errno) { return regulation.CheckPass(b, []api.Step{step(0, 1), step(9, 9)}) })
		numbers("CheckPlan", func() (int, api.Errno) { return regulation.CheckPlan(b, wrongPlan) })
		numbers("Passes", func() (int, api.Errno) { return regulation.Passes(b, wrongSteps) })
		l, n, e := regulation.Sums(b, wrongPlan)
		if wantErr(t, "Sums", e, want); len(l) > 0 || n != 0 {
			t.Error("Sums:", l, n)
		}
		plan, e := regulation.PlanOf(b, wrongSteps)
		if wantErr(t, "PlanOf", e, want); len(plan) > 0 {
			t.Error("PlanOf:", plan)
		}
		l, n, e = regulation.Fewest(b)
		if wantErr(t, "Fewest", e, want); len(l) > 0 || n != 0 {
			t.Error("Fewest:", l, n)
		}
		r, e := regulation.Reach(b, -1)
		if wantErr(t, "Reach", e, want); r != [2]int{} {
			t.Error("Reach:", r)
		}
		sweeps, e := regulation.Settle(b, -1)
		if wantErr(t, "Settle", e, want); len(sweeps) > 0 {
			t.Error("Settle:", sweeps)
		}
		pairs, e := regulation.Disturbs(b)
		if wantErr(t, "Disturbs", e, want); len(pairs) > 0 {
			t.Error("Disturbs:", pairs)
		}
		applied, e := regulation.Apply(b, wrongSteps)
		if wantErr(t, "Apply", e, want); !isNothing(applied) {
			t.Error("Apply:", applied)
		}
		text, e := regulation.Print(b)
		if wantErr(t, "Print", e, want); text != "" {
			t.Error("Print:", text)
		}
	}
}

// R2: no function panics, and each one ends, whatever its numbers are.
func TestExtremes(t *testing.T) {
	for _, a := range extremes {
		for _, b := range extremes {
			for _, x := range []api.Bench{
				{},
				{Measures: measures(2)},
				{Adjustments: adjustments(2, 0)},
				{Measures: make([]api.Measure, 2), Adjustments: make([]api.Adjustment, 2)},
				single(a, min(a, b), max(a, b), 1, 0, 1, 1),
				single(0, a, b, 1, -1, 1, 1),
				single(0, 0, 0, a, b, 1, 1),
				single(0, 0, 0, a, 0, b, 1),
				single(0, 0, 1, 1, a, 1, b),
				single(a, 0, 0, b, -1000, 1000, 1000),
				single(1000, 0, 0, 1, a, 1000, b),
				grand(),
			} {
				extremeCalls(x, a, b)
			}
		}
	}
	for _, text := range []string{"measure", "adjust", "adjust \n", "\xff\n", "adjust a 0 1 1 on\n", "adjust a 0 1 1 after\n", "measure - - - -\n"} {
		regulation.Parse(text)
		regulation.ParseStep(text)
	}
}

func extremeCalls(x api.Bench, a, b int) {
	regulation.CheckBench(x)
	regulation.Order(x)
	for _, l := range [][]int{nil, {a}, {a, b}, {a, b, a}} {
		regulation.Values(x, l)
		regulation.Broken(x, l)
		regulation.Passes(x, l)
		regulation.PlanOf(x, l)
		regulation.CheckRefusal(x, l)
		regulation.Sweep(x, l)
		regulation.Apply(x, l)
	}
	for _, pass := range [][]api.Step{nil, {step(a, b)}, {step(0, a), step(1, b)}, {step(1, a), step(0, b), step(a, b)}} {
		regulation.CheckPass(x, pass)
		regulation.Sums(x, [][]api.Step{pass, pass})
		regulation.CheckPlan(x, [][]api.Step{nil, pass, pass})
	}
	regulation.Fewest(x)
	regulation.Reach(x, a)
	regulation.OutOfReach(x)
	regulation.Refusal(x)
	regulation.Settle(x, min(a, 3))
	regulation.Disturbs(x)
	regulation.FormatStep(step(a, b))
	regulation.Print(x)
}

// tangled has lists of all kinds, with room behind them.
func tangled() api.Bench {
	b := changed(grand(), func(b *api.Bench) {
		b.Adjustments[1].Effects = append(b.Adjustments[1].Effects, on("let-off", 1))
		b.Adjustments[2].Effects = append(b.Adjustments[2].Effects, on("drop", 1))
		b.Adjustments[2].After = []string{"screw"}
	})
	b.Measures, b.Adjustments = slices.Grow(b.Measures, 5), slices.Grow(b.Adjustments, 5)
	for n := range b.Adjustments {
		a := &b.Adjustments[n]
		a.Effects, a.After = slices.Grow(a.Effects, 5), slices.Grow(a.After, 5)
	}
	return b
}

// scribble writes over a list, and behind it.
func scribble(lists ...[]int) {
	for _, l := range lists {
		l = append(l, 97)
		for n := range l {
			l[n] = 98
		}
	}
}

// R3: arguments stay as they are, and results share no memory with them or with each other.
func TestMemory(t *testing.T) {
	b, steps, weights := tangled(), slices.Grow([]int{3, 1, 1}, 5), []int{0, 0, 1}
	plan := [][]api.Step{{step(0, 2), step(1, 1)}, {step(0, 1), step(2, 1)}}
	for range 2 {
		values, _ := regulation.Values(b, steps)
		broken, _ := regulation.Broken(b, []int{0, 3, 4})
		order, _ := regulation.Order(b)
		sums, _, _ := regulation.Sums(b, plan)
		best, _, _ := regulation.Fewest(b)
		out, _ := regulation.OutOfReach(changed(tangled(), func(b *api.Bench) { b.Measures[2].Low, b.Measures[2].High = 90, 95 }))
		swept, _ := regulation.Sweep(b, steps)
		refusal, _ := regulation.Refusal(bound())
		for what, c := range map[string][2][]int{
			"Values":     {values, {19, 7, 5}},
			"Broken":     {broken, {0, 2}},
			"Order":      {order, {0, 1, 2}},
			"Sums":       {sums, {3, 1, 1}},
			"Fewest":     {best, {3, 0, 0}},
			"OutOfReach": {out, {2}},
			"Sweep":      {swept, {4, 2, 0}},
			"Refusal":    {refusal, {-1, 1}},
		} {
			if !slices.Equal(c[0], c[1]) {
				t.Error(what, c[0], c[1])
			}
		}
		scribble(values, broken, order, sums, best, out, swept, refusal)
		regulation.CheckPlan(b, plan)
		regulation.CheckPass(b, plan[0])
		regulation.CheckRefusal(b, weights)
		regulation.Print(b)
	}
	if !reflect.DeepEqual(b, tangled()) || !slices.Equal(steps, []int{3, 1, 1}) || !slices.Equal(weights, []int{0, 0, 1}) ||
		!equalPlans(plan, [][]api.Step{{step(0, 2), step(1, 1)}, {step(0, 1), step(2, 1)}}) {
		t.Error("an argument was changed:", b, steps, weights, plan)
	}
	if !slices.Equal(steps[:8], []int{3, 1, 1, 0, 0, 0, 0, 0}) || slices.ContainsFunc(b.Measures[3:8], func(m api.Measure) bool { return m != api.Measure{} }) {
		t.Error("the memory behind an argument was changed:", steps[:8], b.Measures[3:8])
	}
}

// R3: the lists of one result share no memory.
func TestMemoryOfOneResult(t *testing.T) {
	b := tangled()
	sweeps, e := regulation.Settle(grand(), 5)
	if len(sweeps) != 2 || e != api.OK {
		t.Fatal("Settle:", sweeps, e)
	}
	scribble(sweeps[0])
	if !slices.Equal(sweeps[1], []int{4, 2, 0}) {
		t.Error("Settle:", sweeps)
	}
	plan, e := regulation.PlanOf(grand(), []int{3, 2, 1})
	if len(plan) != 2 || e != api.OK {
		t.Fatal("PlanOf:", plan, e)
	}
	for _, s := range [][]api.Step{plan[0], append(plan[0], step(97, 97))} {
		for n := range s {
			s[n] = step(98, 98)
		}
	}
	if !slices.Equal(plan[1], []api.Step{step(0, 1), step(1, 1)}) {
		t.Error("PlanOf:", plan)
	}
	x, e := regulation.Apply(b, []int{1, 0, 0})
	wantErr(t, "Apply", e, api.OK)
	for n := range x.Adjustments {
		a := &x.Adjustments[n]
		for _, f := range [][]api.Effect{a.Effects, append(a.Effects, api.Effect{})} {
			for i := range f {
				f[i] = on("key", math.MaxInt)
			}
		}
		for i := range append(a.After, "") {
			append(a.After, "")[i] = "key"
		}
	}
	x.Measures[0].Name, x.Adjustments[0].Name = "key", "key"
	x.Measures, x.Adjustments = append(x.Measures, api.Measure{Name: "key"}), append(x.Adjustments, api.Adjustment{Name: "key"})
	if !reflect.DeepEqual(b, tangled()) {
		t.Error("Apply shares memory:", b)
	}
	for n, a := range x.Adjustments[:3] {
		if len(a.Effects) != len(b.Adjustments[n].Effects) || slices.Contains(a.Effects, api.Effect{}) {
			t.Error("Apply:", x)
		}
	}
}

// R5: a nil list and an empty one are the same.
func TestEmptyLists(t *testing.T) {
	for _, b := range []api.Bench{{}, {Measures: []api.Measure{}, Adjustments: []api.Adjustment{}}} {
		for _, l := range [][]int{nil, {}} {
			if values, e := regulation.Values(b, l); len(values) != 0 || e != api.OK {
				t.Error("Values:", values, e)
			}
			if plan, e := regulation.PlanOf(b, l); len(plan) != 0 || e != api.OK {
				t.Error("PlanOf:", plan, e)
			}
			wantErr(t, "CheckRefusal", regulation.CheckRefusal(b, l), api.ErrProof)
			if x, e := regulation.Apply(b, l); !isNothing(x) || e != api.OK {
				t.Error("Apply:", x, e)
			}
		}
		for _, plan := range [][][]api.Step{nil, {}, {nil}, {{}}} {
			if l, n, e := regulation.Sums(b, plan); len(l) != 0 || n != 0 || e != api.OK {
				t.Error("Sums:", l, n, e)
			}
		}
	}
	for _, a := range []api.Adjustment{{Name: "a", Pass: 1}, {Name: "a", Pass: 1, Effects: []api.Effect{}, After: []string{}}} {
		b := api.Bench{Adjustments: []api.Adjustment{a}}
		if text, e := regulation.Print(b); text != "adjust a 0 0 1\n" || e != api.OK {
			t.Error("Print:", text, e)
		}
		if l, e := regulation.Sweep(b, []int{0}); !slices.Equal(l, []int{0}) || e != api.OK {
			t.Error("Sweep:", l, e)
		}
	}
}
