package plate_test

import (
	"math"
	"math/big"
	"math/rand/v2"
	"slices"
	"testing"

	"agraffe/api"
)

// extremes are the numbers at which arithmetic with ints goes wrong first.
var extremes = []int{math.MinInt, math.MinInt + 1, -10000000001, -2000001, -1000000, -20001, -1, 0, 1, 100, 20000, 300001, 1000000, 10000000000, math.MaxInt - 1, math.MaxInt}

// dice are the same ones in each run.
func dice() *rand.Rand {
	return rand.New(rand.NewPCG(5, 6))
}

func from(r *rand.Rand, low, high int) int {
	return low + r.IntN(high-low+1)
}

func span(low, high int) api.Range {
	return api.Range{Lo: low, Hi: high}
}

func frac(num, den int) api.Frac {
	return api.Frac{Num: num, Den: den}
}

func at(x, y, z int) [3]int {
	return [3]int{x, y, z}
}

// randomVector has coordinates that are up to most in size, and some that are 0 or most.
func randomVector(r *rand.Rand, most int) [3]int {
	var v [3]int
	for i := range v {
		switch r.IntN(6) {
		case 0:
		case 1:
			v[i] = []int{-most, most}[r.IntN(2)]
		default:
			v[i] = from(r, -most, most)
		}
	}
	return v
}

func randomForces(r *rand.Rand, count, place, force int) []api.Pulled {
	l := make([]api.Pulled, count)
	for i := range l {
		l[i] = api.Pulled{At: randomVector(r, place), Force: randomVector(r, force)}
	}
	return l
}

// randomLoads lie on a few places again and again, and often on the first one and the last one.
func randomLoads(r *rand.Rand, count, low, high, most int) [][2]int {
	places := []int{low, high}
	for range 1 + count/2 {
		places = append(places, from(r, low, high))
	}
	l := make([][2]int, count)
	for i := range l {
		l[i] = [2]int{places[r.IntN(len(places))], from(r, -most, most)}
	}
	return l
}

// randomBars may lie as close as 1, and from end to end.
func randomBars(r *rand.Rand, count, most int) []int {
	bars := []int{}
	for len(bars) < count {
		if x := from(r, -most, most); !slices.Contains(bars, x) {
			bars = append(bars, x)
		}
	}
	slices.Sort(bars)
	return bars
}

func whole(n int) *big.Rat {
	return big.NewRat(int64(n), 1)
}

func ratOf(f api.Frac) *big.Rat {
	return big.NewRat(int64(f.Num), int64(f.Den))
}

func product(a, b *big.Rat) *big.Rat {
	return new(big.Rat).Mul(a, b)
}

func quotient(a, b *big.Rat) *big.Rat {
	return new(big.Rat).Quo(a, b)
}

func sum(l ...*big.Rat) *big.Rat {
	total := new(big.Rat)
	for _, x := range l {
		total.Add(total, x)
	}
	return total
}

func difference(a, b *big.Rat) *big.Rat {
	return new(big.Rat).Sub(a, b)
}

// roundedDown and roundedUp are written with big numbers, apart from the program's own division.
func roundedDown(r *big.Rat) int {
	return int(new(big.Int).Div(r.Num(), r.Denom()).Int64())
}

func roundedUp(r *big.Rat) int {
	return -roundedDown(new(big.Rat).Neg(r))
}

// isExactly tells whether a fraction is a number, and in lowest terms.
func isExactly(f api.Frac, r *big.Rat) bool {
	return r.Num().IsInt64() && r.Denom().IsInt64() && f == frac(int(r.Num().Int64()), int(r.Denom().Int64()))
}

func wantErr(t *testing.T, what string, got, want api.Errno) {
	t.Helper()
	if got != want {
		t.Errorf("%s: error %d, want %d", what, got, want)
	}
}
