package regulation_test

import (
	"math"
	"math/rand/v2"
	"slices"
	"strconv"
	"testing"

	"agraffe/api"
)

// extremes are the numbers at which arithmetic with ints goes wrong first.
var extremes = []int{math.MinInt, math.MinInt + 1, -100001, -100000, -1001, -1000, -1, 0, 1, 2, 1000, 1001, 100000, 100001, math.MaxInt - 1, math.MaxInt}

// dice are the same ones in each run.
func dice() *rand.Rand {
	return rand.New(rand.NewPCG(11, 12))
}

func from(r *rand.Rand, low, high int) int {
	return low + r.IntN(high-low+1)
}

func on(measure string, by int) api.Effect {
	return api.Effect{Measure: measure, By: by}
}

func step(adjustment, steps int) api.Step {
	return api.Step{Adjustment: adjustment, Steps: steps}
}

// grand is the bench of the chapter's examples.
func grand() api.Bench {
	return api.Bench{
		Measures: []api.Measure{
			{Name: "let-off", Value: 30, Low: 10, High: 20},
			{Name: "drop", Value: 5, Low: 0, High: 8},
			{Name: "catch", Value: 0, Low: -5, High: 5},
		},
		Adjustments: []api.Adjustment{
			{Name: "button", Effects: []api.Effect{on("let-off", -4), on("drop", 1)}, Least: -10, Most: 10, Pass: 2},
			{Name: "screw", Effects: []api.Effect{on("drop", -2)}, Least: -3, Most: 3, Pass: 1, After: []string{"button"}},
			{Name: "check", Effects: []api.Effect{on("catch", 5)}, Least: 0, Most: 4, Pass: 4},
		},
	}
}

// single has a measure with a tolerance, and an adjustment that moves it.
func single(value, low, high, by, least, most, pass int) api.Bench {
	return api.Bench{
		Measures:    []api.Measure{{Name: "m", Value: value, Low: low, High: high}},
		Adjustments: []api.Adjustment{{Name: "a", Effects: []api.Effect{on("m", by)}, Least: least, Most: most, Pass: pass}},
	}
}

// measures are so many, none of them broken.
func measures(count int) []api.Measure {
	var l []api.Measure
	for n := range count {
		l = append(l, api.Measure{Name: "m" + strconv.Itoa(n)})
	}
	return l
}

// adjustments are so many, without effects, with up to most steps each.
func adjustments(count, most int) []api.Adjustment {
	var l []api.Adjustment
	for n := range count {
		l = append(l, api.Adjustment{Name: "a" + strconv.Itoa(n), Most: most, Pass: 1})
	}
	return l
}

// changed returns a bench that is like another one but for what change does.
func changed(b api.Bench, change func(b *api.Bench)) api.Bench {
	change(&b)
	return b
}

// badBenches have each an error of its own; the functions with benches return it ahead of all others.
func badBenches() map[api.Errno]api.Bench {
	return map[api.Errno]api.Bench{
		api.ErrLarge:   {Measures: measures(13)},
		api.ErrName:    changed(grand(), func(b *api.Bench) { b.Measures[0].Name = "" }),
		api.ErrExists:  changed(grand(), func(b *api.Bench) { b.Measures[1].Name = "let-off" }),
		api.ErrRange:   changed(grand(), func(b *api.Bench) { b.Adjustments[1].Pass = 0 }),
		api.ErrOrder:   changed(grand(), func(b *api.Bench) { b.Measures[1].High = -1 }),
		api.ErrMissing: changed(grand(), func(b *api.Bench) { b.Adjustments[1].After[0] = "key" }),
		api.ErrZero:    changed(grand(), func(b *api.Bench) { b.Adjustments[2].Effects[0].By = 0 }),
		api.ErrCycle:   changed(grand(), func(b *api.Bench) { b.Adjustments[1].After[0] = "screw" }),
	}
}

// room bounds the numbers of random benches.
type room struct{ measures, adjustments, value, by, steps, pass int }

// narrow is room for benches all of whose steps can be tried, which have something to do.
func narrow() room {
	return room{measures: 3, adjustments: 3, value: 6, by: 3, steps: 3, pass: 3}
}

// randomBench has adjustments behind each other in no circle: each one may come behind those that a random
// order has ahead of it.
func randomBench(r *rand.Rand, most room) api.Bench {
	b := api.Bench{Measures: measures(r.IntN(most.measures + 1)), Adjustments: adjustments(r.IntN(most.adjustments+1), 0)}
	for n := range b.Measures {
		m := &b.Measures[n]
		m.Value, m.Low = from(r, -most.value, most.value), from(r, -most.value, most.value)
		m.High = from(r, m.Low, min(m.Low+4, most.value))
	}
	places := r.Perm(len(b.Adjustments))
	for n := range b.Adjustments {
		a := &b.Adjustments[n]
		a.Least, a.Most, a.Pass = -r.IntN(most.steps+1), r.IntN(most.steps+1), from(r, 1, most.pass)
		for _, measure := range r.Perm(len(b.Measures)) {
			if by := from(r, -most.by, most.by); by != 0 && r.IntN(2) == 0 {
				a.Effects = append(a.Effects, on(b.Measures[measure].Name, by))
			}
		}
		for other := range b.Adjustments {
			if places[other] < places[n] && r.IntN(3) == 0 {
				a.After = append(a.After, b.Adjustments[other].Name)
			}
		}
	}
	return b
}

func randomSteps(r *rand.Rand, b api.Bench) []int {
	steps := make([]int, len(b.Adjustments))
	for n, a := range b.Adjustments {
		steps[n] = from(r, a.Least, a.Most)
	}
	return steps
}

// behind calculates values effect by effect, found by their names.
func behind(b api.Bench, steps []int) []int {
	values := make([]int, len(b.Measures))
	for n, m := range b.Measures {
		values[n] = m.Value
		for i, a := range b.Adjustments {
			for _, f := range a.Effects {
				if f.Measure == m.Name {
					values[n] += f.By * steps[i]
				}
			}
		}
	}
	return values
}

func brokenBehind(b api.Bench, steps []int) []int {
	var l []int
	for n, v := range behind(b, steps) {
		if v < b.Measures[n].Low || v > b.Measures[n].High {
			l = append(l, n)
		}
	}
	return l
}

// combinations are all lists with a number of each of the ranges, in lexicographic order.
func combinations(ranges [][2]int) [][]int {
	if len(ranges) == 0 {
		return [][]int{{}}
	}
	var l [][]int
	for n := ranges[0][0]; n <= ranges[0][1]; n++ {
		for _, rest := range combinations(ranges[1:]) {
			l = append(l, append([]int{n}, rest...))
		}
	}
	return l
}

func allSteps(b api.Bench) [][]int {
	var ranges [][2]int
	for _, a := range b.Adjustments {
		ranges = append(ranges, [2]int{a.Least, a.Most})
	}
	return combinations(ranges)
}

// passesFor counts them one by one.
func passesFor(b api.Bench, steps []int) int {
	most := 0
	for n, a := range b.Adjustments {
		passes := 0
		for left := max(steps[n], -steps[n]); left > 0; left -= a.Pass {
			passes++
		}
		most = max(most, passes)
	}
	return most
}

func sizes(l []int) int {
	sum := 0
	for _, n := range l {
		sum += max(n, -n)
	}
	return sum
}

func equalPlans(a, b [][]api.Step) bool {
	return slices.EqualFunc(a, b, func(a, b []api.Step) bool { return slices.Equal(a, b) })
}

func wantErr(t *testing.T, what string, got, want api.Errno) {
	t.Helper()
	if got != want {
		t.Errorf("%s: error %d, want %d", what, got, want)
	}
}
