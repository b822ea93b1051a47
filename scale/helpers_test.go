package scale_test

import (
	"math"
	"math/big"
	"math/rand/v2"
	"slices"
	"testing"

	"agraffe/api"
	"agraffe/scale"
)

// extremes are the numbers at which arithmetic with ints goes wrong first.
var extremes = []int{math.MinInt, math.MinInt + 1, -300001, -1, 0, 1, 2, 100, 1000, 3000, 300000, 10000001, 1000000000000001, math.MaxInt - 1, math.MaxInt}

// dice are the same ones in each run.
func dice() *rand.Rand {
	return rand.New(rand.NewPCG(3, 4))
}

func from(r *rand.Rand, low, high int) int {
	return low + r.IntN(high-low+1)
}

func span(low, high int) api.Range {
	return api.Range{Lo: low, Hi: high}
}

// steel is the wire of the chapter's examples; brass is for wraps.
func steel() []api.Wire {
	return []api.Wire{
		{Name: "steel", Mass: 24661, Strength: 180000, Stiff: 97000000},
		{Name: "brass", Mass: 27000, Strength: 60000, Stiff: 50000000},
	}
}

// plain is the strand of the chapter's examples.
func plain() api.Strand {
	return api.Strand{Length: 40000, Core: 1000, Wire: "steel"}
}

func wound() api.Strand {
	return api.Strand{Length: 120000, Core: 1200, Over: 3000, Wire: "steel", Wrap: "brass"}
}

// two is the stringing of the chapter's examples.
func two() api.Stringing {
	short := plain()
	short.Length = 20000
	return api.Stringing{Fork: 440000, Wires: steel()[:1], Unisons: []api.Unison{
		{Pitch: api.Pitch{Den: 1}, Count: 3, Strand: plain()},
		{Pitch: api.Pitch{Two: 1, Den: 1}, Count: 3, Strand: short},
	}}
}

// piano has so many plain unisons, a semitone from each to the next one, with nearly the same tension.
func piano(unisons int) api.Stringing {
	s := api.Stringing{Fork: 440000, Wires: steel()}
	length := 60000
	for i := range unisons {
		x := plain()
		x.Length = length
		s.Unisons = append(s.Unisons, api.Unison{Pitch: api.Pitch{Two: i - 7, Den: 12}, Count: 3, Strand: x})
		length = length * 94387 / 100000
	}
	return s
}

// exampleLimits are those of the chapter's examples.
func exampleLimits() api.TensionLimits {
	return api.TensionLimits{Least: 70000, Most: 80000, Share: 500, Jump: 2000}
}

// wide keeps whatever a strand may have.
func wide() api.TensionLimits {
	return api.TensionLimits{Most: api.MaxNumber, Share: 1000000, Jump: api.MaxNumber}
}

func withUnison(s api.Stringing, i int, change func(*api.Unison)) api.Stringing {
	s.Unisons = slices.Clone(s.Unisons)
	change(&s.Unisons[i])
	return s
}

// bounds are exact numbers, which the formulas of the chapter are worked out with apart from the program's ints.
type bounds struct{ lo, hi *big.Rat }

func whole(n int) bounds {
	return bounds{big.NewRat(int64(n), 1), big.NewRat(int64(n), 1)}
}

func ends(r api.Range) bounds {
	return bounds{big.NewRat(int64(r.Lo), 1), big.NewRat(int64(r.Hi), 1)}
}

func (a bounds) times(b bounds) bounds {
	return bounds{new(big.Rat).Mul(a.lo, b.lo), new(big.Rat).Mul(a.hi, b.hi)}
}

// rounded is a, divided by b, and rounded outward.
func rounded(a, b bounds) bounds {
	down, up := new(big.Rat).Quo(a.lo, b.hi), new(big.Rat).Quo(a.hi, b.lo)
	low := new(big.Int).Div(down.Num(), down.Denom())
	high := new(big.Int).Neg(new(big.Int).Div(new(big.Int).Neg(up.Num()), up.Denom()))
	return bounds{new(big.Rat).SetInt(low), new(big.Rat).SetInt(high)}
}

func (a bounds) is(r api.Range) bool {
	b := ends(r)
	return a.lo.Cmp(b.lo) == 0 && a.hi.Cmp(b.hi) == 0
}

func exactMass(l []api.Wire, s api.Strand) int {
	mass := 0
	for _, w := range l {
		if w.Name == s.Wire {
			mass += w.Mass * s.Core * s.Core
		}
		if s.Over != 0 && w.Name == s.Wrap {
			mass += w.Mass * (s.Over*s.Over - s.Core*s.Core)
		}
	}
	return mass
}

func exactSpeed(s api.Strand, f api.Range) bounds {
	return rounded(ends(f).times(whole(s.Length)), whole(1000000))
}

func exactTension(l []api.Wire, s api.Strand, f api.Range) bounds {
	x := exactSpeed(s, f)
	q := rounded(x.times(x), whole(10000))
	m := rounded(whole(exactMass(l, s)), whole(10000))
	return rounded(m.times(q), whole(1000000))
}

// jumpOf is the chapter's jump between two tensions.
func jumpOf(a, b api.Range) int {
	return max(a.Hi-b.Lo, b.Hi-a.Lo)
}

func tension(t *testing.T, l []api.Wire, s api.Strand, f api.Range) api.Range {
	t.Helper()
	x, e := scale.Tension(l, s, f)
	wantErr(t, "Tension", e, api.OK)
	return x
}

func wantErr(t *testing.T, what string, got, want api.Errno) {
	t.Helper()
	if got != want {
		t.Errorf("%s: error %d, want %d", what, got, want)
	}
}

func wantRange(t *testing.T, what string, x api.Range, e api.Errno, low, high int) {
	t.Helper()
	if x != span(low, high) || e != api.OK {
		t.Errorf("%s: %v, error %d, want %d to %d", what, x, e, low, high)
	}
}
