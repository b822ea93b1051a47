package scale

import (
	"iter"
	"slices"

	"agraffe/api"
	"agraffe/whole"
)

// maxPotential is more than any choice costs, so that it may stand for a gauge to which no choice leads.
const maxPotential = 1000000

// fit is an allowed gauge of a unison, by its number, with the tension that it brings.
type fit struct {
	gauge   int
	tension api.Range
}

// Allowed returns the numbers of the allowed gauges of each unison (P2.5).
func Allowed(s api.Stringing, m api.TensionLimits, gauges []int) ([][]int, api.Errno) {
	fits, e := fitsOf(s, m, gauges)
	if e != api.OK {
		return nil, e
	}
	allowed := make([][]int, len(fits))
	for i, l := range fits {
		for _, f := range l {
			allowed[i] = append(allowed[i], f.gauge)
		}
	}
	return allowed, api.OK
}

// fitsOf is for functions with a stringing, limits and gauges.
func fitsOf(s api.Stringing, m api.TensionLimits, gauges []int) ([][]fit, api.Errno) {
	strands, e := limitedUnisons(s, m)
	if e != api.OK {
		return nil, e
	}
	if e := gaugesError(gauges); e != api.OK {
		return nil, e
	}
	fits := make([][]fit, len(strands))
	for i, x := range strands {
		for g, core := range gauges {
			if y, right := x.withCore(core); right && y.keeps(m) {
				fits[i] = append(fits[i], fit{g, y.tension()})
			}
		}
	}
	return fits, api.OK
}

func gaugesError(gauges []int) api.Errno {
	if len(gauges) == 0 || len(gauges) > api.MaxGauges {
		return api.ErrLarge
	}
	return whole.AscentError(gauges, minCore, maxCore)
}

// together yields the gauges of neighbouring unisons that go together, the earlier unison's one first.
func together(earlier, later []fit, most int) iter.Seq2[int, int] {
	return func(yield func(int, int) bool) {
		for _, a := range earlier {
			for _, b := range later {
				if jump(a.tension, b.tension) <= most && !yield(a.gauge, b.gauge) {
					return
				}
			}
		}
	}
}

func change(a, b int) int {
	return max(a-b, b-a)
}

// Choose returns a cheapest choice with its proof and its cost, or the first unison at which none is left (P2.5).
// The potential of a gauge is the cost of the cheapest choice that ends with it. No proof has greater ones,
// and so these prove the cost.
func Choose(s api.Stringing, m api.TensionLimits, gauges []int) (api.GaugeChoice, int, api.Errno) {
	fits, e := fitsOf(s, m, gauges)
	if e != api.OK {
		return api.GaugeChoice{}, 0, e
	}
	var potentials, before [][]int
	for i, l := range fits {
		costs, from := slices.Repeat([]int{maxPotential}, len(gauges)), make([]int, len(gauges))
		if i == 0 {
			for _, f := range l {
				costs[f.gauge] = 0
			}
		} else {
			goOn(potentials[i-1], together(fits[i-1], l, m.Jump), costs, from)
		}
		if slices.Min(costs) == maxPotential {
			return api.GaugeChoice{}, i, api.ErrNone
		}
		potentials, before = append(potentials, costs), append(before, from)
	}
	chosen, cost := cheapest(potentials, before)
	return api.GaugeChoice{Gauges: chosen, Potentials: potentials}, cost, api.OK
}

// goOn lowers costs to what they are behind the unison before, and notes from which gauge each one comes.
func goOn(earlier []int, pairs iter.Seq2[int, int], costs, from []int) {
	for a, b := range pairs {
		if cost := earlier[a] + change(a, b); cost < costs[b] {
			costs[b], from[b] = cost, a
		}
	}
}

// cheapest goes back from the least potential of the last unison.
func cheapest(potentials, before [][]int) ([]int, int) {
	last := len(potentials) - 1
	if last < 0 {
		return nil, 0
	}
	chosen := make([]int, last+1)
	cost := slices.Min(potentials[last])
	chosen[last] = slices.Index(potentials[last], cost)
	for i := last; i > 0; i-- {
		chosen[i-1] = before[i][chosen[i]]
	}
	return chosen, cost
}

// CheckChoice returns the cost of a choice that its potentials prove to be a cheapest one (P2.5).
func CheckChoice(s api.Stringing, m api.TensionLimits, gauges []int, c api.GaugeChoice) (int, api.Errno) {
	fits, e := fitsOf(s, m, gauges)
	if e != api.OK {
		return 0, e
	}
	if !hasShape(c, len(fits), len(gauges)) {
		return 0, api.ErrShape
	}
	cost, e := costOf(c.Gauges, len(gauges), fits, m.Jump)
	if e != api.OK {
		return 0, e
	}
	for _, l := range c.Potentials {
		for _, p := range l {
			if !whole.Between(p, -maxPotential, maxPotential) {
				return 0, api.ErrRange
			}
		}
	}
	if !proves(c.Potentials, cost, fits, m.Jump) {
		return 0, api.ErrProof
	}
	return cost, api.OK
}

func hasShape(c api.GaugeChoice, unisons, gauges int) bool {
	if len(c.Gauges) != unisons || len(c.Potentials) != unisons {
		return false
	}
	return !slices.ContainsFunc(c.Potentials, func(l []int) bool { return len(l) != gauges })
}

// costOf returns the cost of a choice of allowed gauges that go together.
func costOf(chosen []int, gauges int, fits [][]fit, most int) (int, api.Errno) {
	cost := 0
	var last fit
	for i, g := range chosen {
		if !whole.Between(g, 0, gauges-1) {
			return 0, api.ErrMissing
		}
		at := slices.IndexFunc(fits[i], func(f fit) bool { return f.gauge == g })
		if at < 0 {
			return 0, api.ErrBreak
		}
		this := fits[i][at]
		if i > 0 {
			if jump(last.tension, this.tension) > most {
				return 0, api.ErrClash
			}
			cost += change(last.gauge, g)
		}
		last = this
	}
	return cost, api.OK
}

// proves tells whether potentials prove that no choice costs less than cost.
func proves(potentials [][]int, cost int, fits [][]fit, most int) bool {
	last := len(fits) - 1
	if last < 0 {
		return true
	}
	tooHigh := func(f fit) bool { return potentials[0][f.gauge] > 0 }
	tooLow := func(f fit) bool { return potentials[last][f.gauge] < cost }
	if slices.ContainsFunc(fits[0], tooHigh) || slices.ContainsFunc(fits[last], tooLow) {
		return false
	}
	for i := range last {
		for a, b := range together(fits[i], fits[i+1], most) {
			if potentials[i+1][b] > potentials[i][a]+change(a, b) {
				return false
			}
		}
	}
	return true
}

// With returns the stringing with the chosen gauges (P2.5).
func With(s api.Stringing, gauges, choice []int) (api.Stringing, api.Errno) {
	if _, e := CheckStringing(s); e != api.OK {
		return api.Stringing{}, e
	}
	if e := gaugesError(gauges); e != api.OK {
		return api.Stringing{}, e
	}
	if len(choice) != len(s.Unisons) {
		return api.Stringing{}, api.ErrShape
	}
	s.Wires, s.Unisons = slices.Clone(s.Wires), slices.Clone(s.Unisons)
	for i, g := range choice {
		if !whole.Between(g, 0, len(gauges)-1) {
			return api.Stringing{}, api.ErrMissing
		}
		s.Unisons[i].Strand.Core = gauges[g]
	}
	if _, e := CheckStringing(s); e != api.OK {
		return api.Stringing{}, e
	}
	return s, api.OK
}
