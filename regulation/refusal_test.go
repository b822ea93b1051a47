package regulation_test

import (
	"math"
	"slices"
	"testing"

	"agraffe/api"
	"agraffe/regulation"
)

// P5.6: ranges of measures.
func TestReach(t *testing.T) {
	for _, c := range []struct {
		what    string
		b       api.Bench
		measure int
		want    [2]int
	}{
		{"let-off", grand(), 0, [2]int{-10, 70}},
		{"drop", grand(), 1, [2]int{-11, 21}},
		{"catch", grand(), 2, [2]int{0, 20}},
		{"only the main effects", changed(grand(), func(b *api.Bench) { b.Adjustments[0].Effects = b.Adjustments[0].Effects[:1] }), 1, [2]int{-1, 11}},
		{"no effect on it", changed(grand(), func(b *api.Bench) { b.Adjustments = b.Adjustments[:2] }), 2, [2]int{0, 0}},
		{"no effect on it, elsewhere", changed(grand(), func(b *api.Bench) { b.Measures[2].Value, b.Adjustments = -77, nil }), 2, [2]int{-77, -77}},
		{"back alone", single(3, 0, 0, -7, 0, 4, 1), 0, [2]int{-25, 3}},
		{"back alone, below 0", single(3, 0, 0, -7, -4, 0, 1), 0, [2]int{3, 31}},
		{"both ways", single(3, 0, 0, -7, -1, 4, 1), 0, [2]int{-25, 10}},
	} {
		if r, e := regulation.Reach(c.b, c.measure); r != c.want || e != api.OK {
			t.Errorf("%s: %v, error %d, want %v", c.what, r, e, c.want)
		}
	}
	for _, measure := range []int{-1, 3, math.MinInt, math.MaxInt} {
		if r, e := regulation.Reach(grand(), measure); r != [2]int{} || e != api.ErrMissing {
			t.Errorf("Reach of %d: %v, error %d", measure, r, e)
		}
	}
	_, e := regulation.Reach(api.Bench{}, 0)
	wantErr(t, "Reach without measures", e, api.ErrMissing)
}

// P5.6: measures that no steps bring in, as the ends of ranges decide.
func TestOutOfReach(t *testing.T) {
	for _, c := range []struct {
		what string
		b    api.Bench
		want []int
	}{
		{"none", grand(), nil},
		{"nothing", api.Bench{}, nil},
		{"the example", changed(grand(), func(b *api.Bench) { b.Measures[2].Low, b.Measures[2].High = 21, 25 }), []int{2}},
		{"the upper end of the range", changed(grand(), func(b *api.Bench) { b.Measures[2].Low, b.Measures[2].High = 20, 25 }), nil},
		{"the lower end of the range", changed(grand(), func(b *api.Bench) { b.Measures[2].Low, b.Measures[2].High = -9, 0 }), nil},
		{"below the range", changed(grand(), func(b *api.Bench) { b.Measures[2].Low, b.Measures[2].High = -9, -1 }), []int{2}},
		{"two", changed(grand(), func(b *api.Bench) {
			b.Measures[0].Low, b.Measures[0].High = 71, 99
			b.Measures[2].Low, b.Measures[2].High = -9, -1
		}), []int{0, 2}},
		{"between two steps", single(0, 1, 1, 2, -9, 9, 1), nil},
		{"no adjustments", api.Bench{Measures: []api.Measure{{Name: "a"}, {Name: "b", Value: 1}}}, []int{1}},
	} {
		if l, e := regulation.OutOfReach(c.b); !slices.Equal(l, c.want) || e != api.OK {
			t.Errorf("%s: %v, error %d, want %v", c.what, l, e, c.want)
		}
	}
}

// bound has two measures that an adjustment moves together, and tolerances that are apart.
func bound() api.Bench {
	return api.Bench{
		Measures:    []api.Measure{{Name: "a", Low: 5, High: 6}, {Name: "b", Low: -6, High: -5}},
		Adjustments: []api.Adjustment{{Name: "x", Effects: []api.Effect{on("a", 1), on("b", 1)}, Least: -10, Most: 10, Pass: 10}},
	}
}

// P5.7: proofs, and the order of errors.
func TestCheckRefusal(t *testing.T) {
	out := changed(grand(), func(b *api.Bench) { b.Measures[2].Low, b.Measures[2].High = 21, 25 })
	for _, c := range []struct {
		what    string
		b       api.Bench
		weights []int
		want    api.Errno
	}{
		{"a measure alone", out, []int{0, 0, 1}, api.OK},
		{"less than 0", out, []int{0, 0, -1}, api.OK},
		{"the greatest weight", out, []int{0, 0, 100}, api.OK},
		{"the least weight", out, []int{0, 0, -100}, api.OK},
		{"more than the greatest weight", out, []int{0, 0, 101}, api.ErrRange},
		{"less than the least weight", out, []int{-101, 0, 1}, api.ErrRange},
		{"the least int", out, []int{math.MinInt, 0, 1}, api.ErrRange},
		{"too few", out, []int{0, 0}, api.ErrShape},
		{"too many", out, []int{0, 0, 1, 0}, api.ErrShape},
		{"too many that are too great", out, []int{101, 101, 101, 101}, api.ErrShape},
		{"no weights", out, nil, api.ErrShape},
		{"nothing", api.Bench{}, nil, api.ErrProof},
		{"all 0", out, []int{0, 0, 0}, api.ErrProof},
		{"another measure", out, []int{1, 0, 0}, api.ErrProof},
		{"with another measure, to no end", out, []int{1, 0, 1}, api.ErrProof},
		{"what can be brought in", grand(), []int{0, 0, 1}, api.ErrProof},
		{"two together", bound(), []int{-1, 1}, api.OK},
		{"two together, twice", bound(), []int{2, -2}, api.OK},
		{"two, at the end of a range", bound(), []int{3, -1}, api.ErrProof},
		{"two, beyond it", bound(), []int{7, -3}, api.OK},
		{"two that are added", bound(), []int{1, 1}, api.ErrProof},
		{"one of two", bound(), []int{1, 0}, api.ErrProof},
		{"ranges that meet", single(0, 9, 20, 1, 0, 9, 1), []int{1}, api.ErrProof},
		{"ranges that meet below", single(0, -20, -9, 1, -9, 0, 1), []int{1}, api.ErrProof},
		{"ranges that do not meet", single(0, 10, 20, 1, 0, 9, 1), []int{1}, api.OK},
		{"ranges that do not meet below", single(0, -20, -10, 1, -9, 0, 1), []int{1}, api.OK},
		{"between two steps", single(0, 1, 1, 2, -9, 9, 1), []int{1}, api.ErrProof},
	} {
		wantErr(t, c.what, regulation.CheckRefusal(c.b, c.weights), c.want)
	}
}

// proves calculates both ranges from all steps, and from all corners of the tolerances.
func proves(b api.Bench, weights []int) bool {
	least, most := [2]int{math.MaxInt, math.MaxInt}, [2]int{math.MinInt, math.MinInt}
	note := func(which int, numbers []int) {
		sum := 0
		for n, w := range weights {
			sum += w * numbers[n]
		}
		least[which], most[which] = min(least[which], sum), max(most[which], sum)
	}
	for _, steps := range allSteps(b) {
		note(0, behind(b, steps))
	}
	for _, corner := range combinations(slices.Repeat([][2]int{{0, 1}}, len(b.Measures))) {
		for n, m := range b.Measures {
			corner[n] = []int{m.Low, m.High}[corner[n]]
		}
		note(1, corner)
	}
	return most[0] < least[1] || most[1] < least[0]
}

// P5.7, P5.12: against all steps; where there is a proof there are none that bring all in.
func TestProofs(t *testing.T) {
	r := dice()
	accepted := 0
	for range 1500 {
		b := randomBench(r, narrow())
		weights := make([]int, len(b.Measures))
		for n := range weights {
			weights[n] = from(r, -3, 3)
		}
		want := api.ErrProof
		if proves(b, weights) {
			want = api.OK
		}
		wantErr(t, "CheckRefusal", regulation.CheckRefusal(b, weights), want)
		if want != api.OK {
			continue
		}
		accepted++
		_, _, e := regulation.Fewest(b)
		wantErr(t, "Fewest", e, api.ErrNone)
		if _, e := regulation.CheckPlan(b, randomPlan(r, b, r.IntN(3))); e == api.OK {
			t.Fatal("a plan is accepted", b, weights)
		}
	}
	if accepted < 200 {
		t.Error("only", accepted, "proofs")
	}
}

// P5.6, P5.12: values are in the range of their measure, whose ends are reached; one that is out of reach proves it alone.
func TestRanges(t *testing.T) {
	r := dice()
	for range 500 {
		b := randomBench(r, narrow())
		out, e := regulation.OutOfReach(b)
		wantErr(t, "OutOfReach", e, api.OK)
		for n, m := range b.Measures {
			reach, e := regulation.Reach(b, n)
			least, most := math.MaxInt, math.MinInt
			for _, steps := range allSteps(b) {
				values, _ := regulation.Values(b, steps)
				least, most = min(least, values[n]), max(most, values[n])
			}
			if reach != [2]int{least, most} || e != api.OK {
				t.Fatal(b, n, reach, e, least, most)
			}
			if isOut := most < m.Low || least > m.High; slices.Contains(out, n) != isOut {
				t.Fatal(b, n, out)
			}
			alone := make([]int, len(b.Measures))
			alone[n] = 1
			if slices.Contains(out, n) {
				wantErr(t, "CheckRefusal", regulation.CheckRefusal(b, alone), api.OK)
			}
		}
		if !slices.IsSorted(out) {
			t.Fatal(b, out)
		}
	}
}

// sharing has so many measures whose sum stays as it is, and should be 1.
func sharing(count int) api.Bench {
	b := api.Bench{Measures: measures(count), Adjustments: adjustments(count-1, 9)}
	b.Measures[0].Low, b.Measures[0].High = 1, 1
	for n := range b.Adjustments {
		b.Adjustments[n].Least = -9
		b.Adjustments[n].Effects = []api.Effect{on(b.Measures[n].Name, 1), on(b.Measures[n+1].Name, -1)}
	}
	return b
}

// P5.7: the proof with the fewest weights, and of these the first one.
func TestRefusal(t *testing.T) {
	sixOut := api.Bench{Measures: measures(6)}
	sixOut.Measures[5].Value = 1
	twice := changed(bound(), func(b *api.Bench) { // b is always twice a
		b.Measures = []api.Measure{{Name: "a", Low: 5, High: 5}, {Name: "b", Low: 9, High: 9}}
		b.Adjustments[0].Effects[1].By = 2
	})
	for _, c := range []struct {
		what string
		b    api.Bench
		want []int
		err  api.Errno
	}{
		{"the example", changed(grand(), func(b *api.Bench) { b.Measures[2].Low, b.Measures[2].High = 21, 25 }), []int{0, 0, -1}, api.OK},
		{"two together", bound(), []int{-1, 1}, api.OK},
		{"three together", sharing(3), []int{-1, -1, -1}, api.OK},
		{"six together", sharing(6), []int{-1, -1, -1, -1, -1, -1}, api.OK},
		{"one ahead of two", changed(bound(), func(b *api.Bench) { b.Measures[1].Low, b.Measures[1].High = -20, -11 }), []int{0, -1}, api.OK},
		{"the first one of two", changed(bound(), func(b *api.Bench) {
			b.Measures[0].Low, b.Measures[0].High = 11, 20
			b.Measures[1].Low, b.Measures[1].High = -20, -11
		}), []int{-1, 0}, api.OK},
		{"the last one of six", sixOut, []int{0, 0, 0, 0, 0, -1}, api.OK},
		{"what can be brought in", grand(), nil, api.ErrNone},
		{"nothing", api.Bench{}, nil, api.ErrNone},
		{"what nothing proves", single(0, 1, 1, 2, -9, 9, 1), nil, api.ErrNone},
		{"what only greater weights prove", twice, nil, api.ErrNone},
		{"6 measures", api.Bench{Measures: measures(6)}, nil, api.ErrNone},
		{"7 measures", api.Bench{Measures: measures(7)}, nil, api.ErrLarge},
		{"7 measures, one of them out of reach", changed(api.Bench{Measures: measures(7)}, func(b *api.Bench) { b.Measures[0].Value = 9 }), nil, api.ErrLarge},
	} {
		l, e := regulation.Refusal(c.b)
		if !slices.Equal(l, c.want) || e != c.err {
			t.Errorf("%s: %v, error %d, want %v, error %d", c.what, l, e, c.want, c.err)
		}
	}
}

// P5.7: against all weights.
func TestRefusalOfAll(t *testing.T) {
	r := dice()
	several := 0
	for range 400 {
		b := randomBench(r, room{measures: 4, adjustments: 2, value: 6, by: 1, steps: 9, pass: 1})
		var want []int
		for _, weights := range combinations(slices.Repeat([][2]int{{-1, 1}}, len(b.Measures))) {
			if (want == nil || sizes(weights) < sizes(want)) && proves(b, weights) {
				want = weights
			}
		}
		wantE := api.OK
		if want == nil {
			wantE = api.ErrNone
		}
		l, e := regulation.Refusal(b)
		if !slices.Equal(l, want) || e != wantE {
			t.Fatal(b, l, e, want, wantE)
		}
		if sizes(l) > 1 {
			several++
		}
	}
	if several < 10 {
		t.Error("only", several, "proofs have several weights")
	}
}
