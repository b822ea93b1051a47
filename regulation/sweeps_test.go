package regulation_test

import (
	"slices"
	"testing"

	"agraffe/api"
	"agraffe/regulation"
)

// P5.8: a sweep.
func TestSweep(t *testing.T) {
	for _, c := range []struct {
		what  string
		b     api.Bench
		steps []int
		want  []int
	}{
		{"the example", grand(), []int{0, 0, 0}, []int{2, 1, 0}},
		{"the example's next one", grand(), []int{2, 1, 0}, []int{4, 2, 0}},
		{"the order counts", changed(grand(), func(b *api.Bench) { b.Adjustments[0].After, b.Adjustments[1].After = []string{"screw"}, nil }), []int{0, 0, 0}, []int{2, 0, 0}},
		{"nothing", api.Bench{}, nil, nil},
		{"no effects", api.Bench{Adjustments: adjustments(2, 5)}, []int{3, 0}, []int{3, 0}},
		{"no steps are needed", single(15, 10, 20, 1, -9, 9, 9), []int{0}, []int{0}},
		{"into the middle, though it is in", single(19, 10, 20, 1, -9, 9, 9), []int{0}, []int{-4}},
		{"into the middle, between two numbers", single(18, 10, 19, 1, -9, 9, 9), []int{0}, []int{-3}},
		{"from below, between two numbers", single(11, 10, 19, 1, -9, 9, 9), []int{0}, []int{3}},
		{"the least size, as both are as near", single(0, 3, 3, 6, -9, 9, 9), []int{0}, []int{0}},
		{"the least size below 0", single(0, -3, -3, 6, -9, 9, 9), []int{0}, []int{0}},
		{"the lesser of 4 and 5", single(0, 27, 27, 6, -9, 9, 9), []int{0}, []int{4}},
		{"what a pass allows", single(0, 9, 9, 1, -9, 9, 4), []int{0}, []int{4}},
		{"what a pass allows, back", single(0, 9, 9, -1, -9, 9, 4), []int{0}, []int{-4}},
		{"up to Most", single(0, 9, 9, 1, -9, 9, 4), []int{7}, []int{9}},
		{"up to Least", single(0, 9, 9, -1, -9, 9, 4), []int{-7}, []int{-9}},
		{"not beyond Most", single(0, 99, 99, 1, -9, 9, 4), []int{7}, []int{9}},
		{"not beyond Least", single(0, 99, 99, -1, -9, 9, 4), []int{-8}, []int{-9}},
		{"back from steps", single(0, 0, 0, 1, -9, 9, 4), []int{7}, []int{3}},
		{"only the main measure", changed(grand(), func(b *api.Bench) { b.Measures[0].Value, b.Adjustments = 15, b.Adjustments[:1] }), []int{0}, []int{0}},
		{"the main measure is the first effect's", changed(grand(), func(b *api.Bench) {
			b.Adjustments = []api.Adjustment{{Name: "x", Effects: []api.Effect{on("drop", -1), on("let-off", -4)}, Least: -9, Most: 9, Pass: 9}}
		}), []int{0}, []int{1}},
		{"a main measure of two", pair(0, 9, 9, [4]int{4, -9, 9, 1}, [4]int{1, -9, 9, 9}), []int{0, 0}, []int{1, 5}},
	} {
		if l, e := regulation.Sweep(c.b, c.steps); !slices.Equal(l, c.want) || e != api.OK {
			t.Errorf("%s: %v, error %d, want %v", c.what, l, e, c.want)
		}
	}
}

// swept looks at each number of steps that an adjustment may come to.
func swept(b api.Bench, steps []int) []int {
	order, _ := regulation.Order(b)
	steps = slices.Clone(steps)
	for _, n := range order {
		a := b.Adjustments[n]
		if len(a.Effects) == 0 {
			continue
		}
		main := slices.IndexFunc(b.Measures, func(m api.Measure) bool { return m.Name == a.Effects[0].Measure })
		var best []int
		for number := a.Least; number <= a.Most; number++ {
			more := number - steps[n]
			if more < -a.Pass || more > a.Pass {
				continue
			}
			with := slices.Clone(steps)
			with[n] = number
			off := 2*behind(b, with)[main] - b.Measures[main].Low - b.Measures[main].High
			cost := []int{sizes([]int{off}), sizes([]int{more}), more}
			if best == nil || slices.Compare(cost, best) < 0 {
				best = cost
			}
		}
		steps[n] += best[2]
	}
	return steps
}

// P5.8: sweeps by a second calculation.
func TestRandomSweeps(t *testing.T) {
	r := dice()
	for range 500 {
		b := randomBench(r, room{measures: 3, adjustments: 5, value: 60, by: 4, steps: 20, pass: 7})
		steps := randomSteps(r, b)
		if l, e := regulation.Sweep(b, steps); !slices.Equal(l, swept(b, steps)) || e != api.OK {
			t.Fatal(b, steps, l, e, swept(b, steps))
		}
	}
}

// P5.13: with room for enough steps a sweep leaves a measure of its own as near as can be.
func TestSweepAlone(t *testing.T) {
	r := dice()
	for range 500 {
		b := single(from(r, -500, 500), from(r, -500, 0), from(r, 0, 500), from(r, 1, 9), -1000, 1000, 1000)
		if r.IntN(2) == 0 {
			b.Adjustments[0].Effects[0].By *= -1
		}
		l, e := regulation.Sweep(b, []int{0})
		wantErr(t, "Sweep", e, api.OK)
		m := b.Measures[0]
		off := func(steps int) int { return sizes([]int{2*behind(b, []int{steps})[0] - m.Low - m.High}) }
		for steps := -1000; steps <= 1000; steps++ {
			if off(steps) < off(l[0]) {
				t.Fatal(b, l, steps)
			}
		}
	}
}

// P5.8: sweeps up to the first one behind which nothing is broken.
func TestSettle(t *testing.T) {
	slow := single(0, 100, 100, 1, 0, 1000, 1)
	restless := pair(0, 5, 5, [4]int{2, -9, 9, 9}, [4]int{2, -9, 9, 9}) // stays beside its tolerance
	for _, c := range []struct {
		what string
		b    api.Bench
		most int
		want [][]int
		err  api.Errno
	}{
		{"the example", grand(), 2, [][]int{{2, 1, 0}, {4, 2, 0}}, api.OK},
		{"more than are needed", grand(), 100, [][]int{{2, 1, 0}, {4, 2, 0}}, api.OK},
		{"fewer than are needed", grand(), 1, nil, api.ErrNone},
		{"none of those that are needed", grand(), 0, nil, api.ErrNone},
		{"none is needed", single(19, 10, 20, 1, -9, 9, 9), 0, nil, api.OK},
		{"none is needed of some", single(20, 10, 20, 1, -9, 9, 9), 5, nil, api.OK},
		{"nothing", api.Bench{}, 0, nil, api.OK},
		{"one", single(21, 10, 20, 1, -9, 9, 9), 1, [][]int{{-6}}, api.OK},
		{"never", restless, 100, nil, api.ErrNone},
		{"never without adjustments", api.Bench{Measures: []api.Measure{{Name: "m", Value: 1}}}, 100, nil, api.ErrNone},
		{"below 0", grand(), -1, nil, api.ErrRange},
		{"101", grand(), 101, nil, api.ErrRange},
		{"101, though none is needed", api.Bench{}, 101, nil, api.ErrRange},
		{"99 of 100 that are needed", slow, 99, nil, api.ErrNone},
	} {
		l, e := regulation.Settle(c.b, c.most)
		if !slices.EqualFunc(l, c.want, slices.Equal) || e != c.err {
			t.Errorf("%s: %v, error %d, want %v, error %d", c.what, l, e, c.want, c.err)
		}
	}
	l, e := regulation.Settle(slow, 100)
	if len(l) != 100 || !slices.Equal(l[0], []int{1}) || !slices.Equal(l[99], []int{100}) || e != api.OK {
		t.Error("100 sweeps:", l, e)
	}
}

// P5.8: Settle is made of sweeps.
func TestRandomSettling(t *testing.T) {
	r := dice()
	settled := 0
	for range 500 {
		b := randomBench(r, room{measures: 3, adjustments: 4, value: 20, by: 3, steps: 20, pass: 3})
		var want [][]int
		steps := make([]int, len(b.Adjustments))
		for len(want) < 7 && len(brokenBehind(b, steps)) > 0 {
			steps = swept(b, steps)
			want = append(want, steps)
		}
		wantE := api.OK
		if len(want) > 6 {
			want, wantE = nil, api.ErrNone
		}
		if l, e := regulation.Settle(b, 6); !slices.EqualFunc(l, want, slices.Equal) || e != wantE {
			t.Fatal(b, l, e, want, wantE)
		}
		if len(want) > 1 {
			settled++
		}
	}
	if settled < 20 {
		t.Error("only", settled, "benches settle with several sweeps")
	}
}

// P5.8: who disturbs whom.
func TestDisturbs(t *testing.T) {
	knotted := changed(grand(), func(b *api.Bench) {
		b.Adjustments[1].Effects = append(b.Adjustments[1].Effects, on("let-off", 1))
		b.Adjustments[2].Effects = append(b.Adjustments[2].Effects, on("drop", 1), on("let-off", -1))
	})
	shared := api.Bench{Measures: measures(1), Adjustments: adjustments(3, 1)}
	for n := range shared.Adjustments {
		shared.Adjustments[n].Effects = []api.Effect{on("m0", 1)}
	}
	for _, c := range []struct {
		what string
		b    api.Bench
		want [][2]int
	}{
		{"none", grand(), nil},
		{"nothing", api.Bench{}, nil},
		{"the example", changed(grand(), func(b *api.Bench) {
			b.Adjustments[1].Effects = append(b.Adjustments[1].Effects, on("let-off", 1))
		}), [][2]int{{1, 0}}},
		{"without an After", changed(grand(), func(b *api.Bench) {
			b.Adjustments[1].Effects, b.Adjustments[1].After = append(b.Adjustments[1].Effects, on("let-off", 1)), nil
		}), [][2]int{{1, 0}}},
		{"three", knotted, [][2]int{{1, 0}, {2, 0}, {2, 1}}},
		{"another order", changed(knotted, func(b *api.Bench) {
			b.Adjustments = slices.Clone(b.Adjustments)
			b.Adjustments[0].After = []string{"check"}
		}), [][2]int{{1, 0}}},
		{"the other way round", changed(grand(), func(b *api.Bench) {
			b.Adjustments[0].After, b.Adjustments[1].After = []string{"screw"}, nil
		}), [][2]int{{0, 1}}},
		{"a main measure of all", shared, [][2]int{{1, 0}, {2, 0}, {2, 1}}},
		{"a main measure of all, backwards", changed(shared, func(b *api.Bench) {
			b.Adjustments = slices.Clone(b.Adjustments)
			b.Adjustments[0].After, b.Adjustments[1].After = []string{"a1"}, []string{"a2"}
		}), [][2]int{{0, 1}, {0, 2}, {1, 2}}},
		{"no main measures", api.Bench{Adjustments: adjustments(3, 1)}, nil},
		{"no main measure behind it", changed(grand(), func(b *api.Bench) { b.Adjustments[0].Effects = nil }), nil},
		{"another effect is no main one", changed(grand(), func(b *api.Bench) {
			b.Adjustments[0].Effects = []api.Effect{on("let-off", -4), on("drop", 1), on("catch", 1)}
		}), nil},
	} {
		if l, e := regulation.Disturbs(c.b); !slices.Equal(l, c.want) || e != api.OK {
			t.Errorf("%s: %v, error %d, want %v", c.what, l, e, c.want)
		}
	}
}
