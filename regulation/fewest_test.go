package regulation_test

import (
	"math/rand/v2"
	"slices"
	"testing"

	"agraffe/api"
	"agraffe/regulation"
)

// pair has two adjustments of one measure.
func pair(value, low, high int, first, second [4]int) api.Bench {
	b := single(value, low, high, first[0], first[1], first[2], first[3])
	b.Adjustments = append(b.Adjustments, single(value, low, high, second[0], second[1], second[2], second[3]).Adjustments...)
	b.Adjustments[1].Name = "b"
	return b
}

// P5.5: the steps with the fewest passes, the least sizes, the first ones.
func TestFewest(t *testing.T) {
	for _, c := range []struct {
		what   string
		b      api.Bench
		want   []int
		passes int
	}{
		{"the example", grand(), []int{3, 0, 0}, 2},
		{"nothing", api.Bench{}, nil, 0},
		{"nothing is broken", single(5, 0, 5, 1, -3, 3, 1), []int{0}, 0},
		{"no adjustments, and nothing is broken", api.Bench{Measures: measures(3)}, nil, 0},
		{"an adjustment without effects", api.Bench{Adjustments: adjustments(2, 3)}, []int{0, 0}, 0},
		{"up to the tolerance", single(0, 7, 9, 2, -9, 9, 3), []int{4}, 2},
		{"back", single(0, 7, 9, -2, -9, 9, 3), []int{-4}, 2},
		{"all that can be", single(0, 9, 9, 1, -9, 9, 4), []int{9}, 3},
		{"fewer passes ahead of fewer steps", pair(0, 8, 8, [4]int{1, -9, 9, 9}, [4]int{4, -9, 9, 1}), []int{4, 1}, 1},
		{"fewer steps within as many passes", pair(0, 6, 6, [4]int{1, -9, 9, 6}, [4]int{3, -9, 9, 2}), []int{0, 2}, 1},
		{"sizes of both", pair(0, 5, 5, [4]int{3, -9, 9, 9}, [4]int{-2, -9, 9, 9}), []int{1, -1}, 1},
		{"the first ones of as many steps", pair(0, 3, 3, [4]int{1, -9, 9, 3}, [4]int{1, -9, 9, 3}), []int{0, 3}, 1},
		{"the lesser ones come first", pair(0, 2, 2, [4]int{-1, -9, 9, 3}, [4]int{1, -9, 9, 3}), []int{-2, 0}, 1},
		{"passes that many share", pair(0, 4, 4, [4]int{1, -9, 9, 2}, [4]int{1, -9, 9, 2}), []int{2, 2}, 1},
		{"50 passes", single(0, 50, 50, 1, 0, 50, 1), []int{50}, 50},
	} {
		steps, passes, e := regulation.Fewest(c.b)
		if !slices.Equal(steps, c.want) || passes != c.passes || e != api.OK {
			t.Errorf("%s: %v, %d passes, error %d, want %v, %d passes", c.what, steps, passes, e, c.want, c.passes)
		}
	}
}

// tries has adjustments with so many steps each to try.
func tries(counts ...int) api.Bench {
	b := api.Bench{Measures: []api.Measure{{Name: "m"}}, Adjustments: adjustments(len(counts), 0)}
	for n, count := range counts {
		b.Adjustments[n].Least, b.Adjustments[n].Most = -(count-1)/2, count/2
	}
	return b
}

// P5.5: what is too large, and what cannot be.
func TestFewestErrors(t *testing.T) {
	wanting := func(b api.Bench) api.Bench {
		b.Measures = []api.Measure{{Name: "m", Value: 1}}
		return b
	}
	for _, c := range []struct {
		what string
		b    api.Bench
		want api.Errno
	}{
		{"100000 steps", tries(1000, 100), api.OK},
		{"100000 steps of 5 adjustments", tries(10, 10, 10, 10, 10), api.OK},
		{"100001 steps", tries(11, 9091), api.ErrRange},
		{"100001 steps, within the limits", tries(1001, 100), api.ErrLarge},
		{"100011 steps", tries(91, 1099), api.ErrLarge},
		{"as many steps as there can be", tries(slices.Repeat([]int{2001}, 12)...), api.ErrLarge},
		{"so many that their product is 0 as an int", tries(slices.Repeat([]int{1024}, 12)...), api.ErrLarge},
		{"very many, ahead of one", tries(2001, 2001, 1), api.ErrLarge},
		{"none, as the least and the most are 0", wanting(tries(1, 1)), api.ErrNone},
		{"none without adjustments", wanting(api.Bench{}), api.ErrNone},
		{"none without effects", wanting(tries(5, 7)), api.ErrNone},
		{"too many, ahead of none", wanting(tries(2001, 2001)), api.ErrLarge},
		{"none, one step short", single(0, 10, 10, 1, -9, 9, 9), api.ErrNone},
		{"none, as steps are too wide", single(0, 3, 3, 2, -9, 9, 9), api.ErrNone},
	} {
		steps, passes, e := regulation.Fewest(c.b)
		wantErr(t, c.what, e, c.want)
		if e != api.OK && (len(steps) > 0 || passes != 0) {
			t.Errorf("%s: %v, %d passes beside an error", c.what, steps, passes)
		}
	}
}

// P5.5: the passes of the fewest may be more than a plan has.
func TestFewestWithoutPlan(t *testing.T) {
	b := single(0, 51, 60, 1, 0, 60, 1)
	if steps, passes, e := regulation.Fewest(b); !slices.Equal(steps, []int{51}) || passes != 51 || e != api.OK {
		t.Error(steps, passes, e)
	}
	_, e := regulation.PlanOf(b, []int{51})
	wantErr(t, "PlanOf", e, api.ErrLarge)
}

// fewest tries all steps.
func fewest(b api.Bench) ([]int, int, api.Errno) {
	var best []int
	for _, steps := range allSteps(b) {
		if len(brokenBehind(b, steps)) > 0 {
			continue
		}
		if best == nil || slices.Compare([]int{passesFor(b, steps), sizes(steps)}, []int{passesFor(b, best), sizes(best)}) < 0 {
			best = steps
		}
	}
	if best == nil {
		return nil, 0, api.ErrNone
	}
	return best, passesFor(b, best), api.OK
}

// P5.5, P5.11: against all steps, and as a plan that is accepted.
func TestFewestOfAll(t *testing.T) {
	r := dice()
	found := 0
	for range 2000 {
		b := randomBench(r, room{measures: 3, adjustments: 3, value: 8, by: 3, steps: 5, pass: 3})
		steps, passes, e := regulation.Fewest(b)
		want, wantPasses, wantE := fewest(b)
		if !slices.Equal(steps, want) || passes != wantPasses || e != wantE {
			t.Fatal(b, steps, passes, e, want, wantPasses, wantE)
		}
		if e != api.OK {
			continue
		}
		found++
		plan, e := regulation.PlanOf(b, steps)
		n, e2 := regulation.CheckPlan(b, plan)
		if e != api.OK || n != 0 || e2 != api.OK || len(plan) != passes {
			t.Fatal(b, steps, plan, e, n, e2)
		}
	}
	if found < 300 {
		t.Error("only", found, "benches can be brought in")
	}
}

// everyPass returns all passes of a bench whose adjustments come in the order of their numbers.
func everyPass(b api.Bench) [][]api.Step {
	var ranges [][2]int
	for _, a := range b.Adjustments {
		ranges = append(ranges, [2]int{-a.Pass, a.Pass})
	}
	var l [][]api.Step
	for _, counts := range combinations(ranges) {
		var pass []api.Step
		for n, count := range counts {
			if count != 0 {
				pass = append(pass, step(n, count))
			}
		}
		l = append(l, pass)
	}
	return l
}

// acceptsSome tells whether a plan that begins so, and has so many more passes, is accepted.
func acceptsSome(b api.Bench, begin [][]api.Step, more int) bool {
	if more == 0 {
		_, e := regulation.CheckPlan(b, begin)
		return e == api.OK
	}
	return slices.ContainsFunc(everyPass(b), func(pass []api.Step) bool {
		return acceptsSome(b, append(slices.Clone(begin), pass), more-1)
	})
}

// P5.11: no accepted plan has fewer passes than the fewest.
func TestNoAcceptedPlanHasFewerPasses(t *testing.T) {
	r := dice()
	looked := 0
	for range 1500 {
		b := smallBench(r)
		_, passes, e := regulation.Fewest(b)
		if e != api.OK || passes == 0 || passes > 3 {
			continue
		}
		looked++
		if acceptsSome(b, nil, passes-1) {
			t.Fatal(b, passes)
		}
	}
	if looked < 50 {
		t.Error("only", looked, "benches")
	}
}

func smallBench(r *rand.Rand) api.Bench {
	b := randomBench(r, room{measures: 2, adjustments: 2, value: 6, by: 2, steps: 4, pass: 2})
	for n := range b.Adjustments {
		b.Adjustments[n].After = nil
	}
	return b
}
