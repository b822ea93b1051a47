package scale_test

import (
	"reflect"
	"slices"
	"testing"

	"agraffe/api"
	"agraffe/scale"
)

// R2: no function panics, and each one ends, whatever its numbers are.
func TestExtremes(t *testing.T) {
	for _, a := range extremes {
		for _, b := range extremes {
			l := []api.Wire{{Name: "steel", Mass: a, Strength: b, Stiff: a}}
			for _, x := range []api.Strand{{Length: a, Core: b, Over: a, Wire: "steel", Wrap: "steel"}, {Length: 1000, Core: a, Over: b, Wire: "steel"}, {Length: a, Core: 1000, Wire: "steel"}} {
				for _, wires := range [][]api.Wire{l, steel()} {
					extremeStrand(wires, x, span(a, b))
					extremeStrand(wires, x, span(1, 10000000))
				}
			}
			scale.ClassOf([]int{a, b}, span(b, a))
			scale.ClassOf([]int{1, 5}, span(a, b))
			extremeStringing(two(), a, b)
			extremeStringing(withUnison(two(), 1, func(u *api.Unison) { u.Count, u.Pitch.Three = a, b }), a, b)
			s := two()
			s.Fork = a
			extremeStringing(s, a, b)
			scale.LengthSystem([]api.Range{span(a, b), span(b, a)}, span(a, b))
			scale.SmoothLengths([]api.Range{span(a, b)}, span(b, a))
			scale.SmoothLengths([]api.Range{span(1000, 2000), span(2000, 300000)}, span(a, b))
		}
	}
	scale.Parse("fork -999999999\nunison 999999999 -999999999 999999999 999999999 999999999 -999999999 999999999 999999999  \n")
}

func extremeStrand(l []api.Wire, s api.Strand, f api.Range) {
	scale.CheckStrand(l, s)
	scale.MassOf(l, s)
	scale.Tension(l, s, f)
	scale.Share(l, s, f)
	scale.Inharmonicity(l, s, f)
	scale.Impedance(l, s, f)
}

func extremeStringing(s api.Stringing, a, b int) {
	m := api.TensionLimits{Least: a, Most: b, Share: a, Jump: b}
	scale.CheckStringing(s)
	scale.Frequency(s, a)
	scale.Tensions(s)
	scale.Total(s)
	scale.CheckLimits(m)
	scale.Print(s)
	scale.With(s, []int{a, b}, []int{b, a})
	scale.With(s, threeGauges(), []int{b, a})
	for _, limits := range []api.TensionLimits{m, wide(), exampleLimits()} {
		scale.Keeps(s, limits)
		scale.LongestFor(s, a, limits)
		scale.LongestFor(s, 1, limits)
		scale.LeastGauge(s, b, limits)
		scale.LeastGauge(s, 1, limits)
		scale.Allowed(s, limits, []int{a, b})
		scale.Choose(s, limits, threeGauges())
		scale.CheckChoice(s, limits, threeGauges(), api.GaugeChoice{Gauges: []int{a, b}, Potentials: [][]int{{a, b, a}, {b, a, b}}})
		scale.CheckChoice(s, limits, threeGauges(), api.GaugeChoice{Gauges: []int{1, 1}, Potentials: [][]int{{a, b, a}, nil}})
		scale.CheckChoice(s, limits, threeGauges(), api.GaugeChoice{Gauges: []int{1, 1}, Potentials: [][]int{{a, b, a}, {b, a, b}}})
	}
}

// R3: arguments stay as they are, and results share no memory with them or with each other.
func TestMemory(t *testing.T) {
	s, gauges, choice := two(), threeGauges(), []int{0, 2}
	bounds := []api.Range{span(1000, 2000), span(1500, 1800)}
	changed, e := scale.With(s, gauges, choice)
	wantErr(t, "With", e, api.OK)
	changed.Wires[0].Name, changed.Unisons[0].Count = "other", 1
	c, _, e := scale.Choose(s, threeLimits(), gauges)
	wantErr(t, "Choose", e, api.OK)
	allowed, _ := scale.Allowed(s, threeLimits(), gauges)
	second := slices.Clone(allowed[1])
	allowed[0] = append(allowed[0], 99)
	if !slices.Equal(allowed[1], second) {
		t.Error("lists of Allowed share memory", allowed)
	}
	row := slices.Clone(c.Potentials[1])
	c.Potentials[0] = append(c.Potentials[0], 99)
	if !slices.Equal(c.Potentials[1], row) {
		t.Error("potentials share memory", c.Potentials)
	}
	c.Potentials[0] = c.Potentials[0][:3]
	kept := api.GaugeChoice{Gauges: slices.Clone(c.Gauges), Potentials: [][]int{slices.Clone(c.Potentials[0]), slices.Clone(c.Potentials[1])}}
	_, e = scale.CheckChoice(s, threeLimits(), gauges, c)
	wantErr(t, "CheckChoice", e, api.OK)
	scale.Keeps(s, threeLimits())
	scale.LongestFor(s, 1, threeLimits())
	scale.LeastGauge(s, 1, threeLimits())
	scale.SmoothLengths(bounds, span(0, 100))
	if !reflect.DeepEqual(s, two()) || !slices.Equal(gauges, threeGauges()) || !slices.Equal(choice, []int{0, 2}) || !reflect.DeepEqual(c, kept) {
		t.Error("an argument was changed", s, gauges, choice, c)
	}
	if !slices.Equal(bounds, []api.Range{span(1000, 2000), span(1500, 1800)}) {
		t.Error("bounds were changed", bounds)
	}
}

// R5: a nil list and an empty one are the same.
func TestEmpty(t *testing.T) {
	s := api.Stringing{Fork: 1000, Wires: []api.Wire{}, Unisons: []api.Unison{}}
	if n, e := scale.CheckStringing(s); n != 0 || e != api.OK {
		t.Errorf("CheckStringing: %d, error %d", n, e)
	}
	wantErr(t, "CheckWires", scale.CheckWires([]api.Wire{}), api.OK)
	_, e := scale.Allowed(s, wide(), []int{})
	wantErr(t, "Allowed without gauges", e, api.ErrLarge)
	_, e = scale.CheckChoice(s, wide(), threeGauges(), api.GaugeChoice{Gauges: []int{}, Potentials: [][]int{}})
	wantErr(t, "CheckChoice", e, api.OK)
	_, e = scale.LengthSystem([]api.Range{}, api.Range{})
	wantErr(t, "LengthSystem", e, api.OK)
}
