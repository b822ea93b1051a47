package number_test

import (
	"math"
	"math/big"
	"math/rand/v2"
	"testing"

	"agraffe/api"
)

// extremes are the numbers at which arithmetic with ints goes wrong first.
var extremes = []int{math.MinInt, math.MinInt + 1, -1000000000000001, -1000000001, -401, -1, 0, 1, 2, 12, 13, 401, 1000000001, 1000000000000001, math.MaxInt - 1, math.MaxInt}

// dice are the same ones in each run.
func dice() *rand.Rand {
	return rand.New(rand.NewPCG(1, 2))
}

func from(r *rand.Rand, low, high int) int {
	return low + r.IntN(high-low+1)
}

func frac(num, den int) api.Frac {
	return api.Frac{Num: num, Den: den}
}

func pitch(two, three, five, den int) api.Pitch {
	return api.Pitch{Two: two, Three: three, Five: five, Den: den}
}

func span(low, high int) api.Range {
	return api.Range{Lo: low, Hi: high}
}

func ratOf(f api.Frac) *big.Rat {
	return big.NewRat(int64(f.Num), int64(f.Den))
}

// fracOf returns a fraction, if it is valid by its size.
func fracOf(r *big.Rat) (api.Frac, bool) {
	most := big.NewInt(api.MaxPart)
	if r.Num().CmpAbs(most) > 0 || r.Denom().Cmp(most) > 0 {
		return api.Frac{}, false
	}
	return frac(int(r.Num().Int64()), int(r.Denom().Int64())), true
}

// roundedDown and roundedUp are written with big numbers, apart from the program's own division.
func roundedDown(r *big.Rat) *big.Int {
	quotient, _ := new(big.Int).DivMod(r.Num(), r.Denom(), new(big.Int))
	return quotient
}

func roundedUp(r *big.Rat) *big.Int {
	down := roundedDown(new(big.Rat).Neg(r))
	return down.Neg(down)
}

func randomFrac(r *rand.Rand) api.Frac {
	most := 1
	for range r.IntN(10) {
		most *= 10
	}
	f, _ := fracOf(big.NewRat(int64(from(r, -most, most)), int64(from(r, 1, most))))
	return f
}

func randomPitch(r *rand.Rand, most int) api.Pitch {
	return pitch(from(r, -most, most), from(r, -most, most), from(r, -most, most), from(r, 1, 12))
}

// powerOf returns 2^two 3^three 5^five.
func powerOf(two, three, five int) *big.Rat {
	product := big.NewRat(1, 1)
	for i, e := range []int{two, three, five} {
		factor := new(big.Int).Exp(big.NewInt([]int64{2, 3, 5}[i]), big.NewInt(int64(max(e, -e))), nil)
		power := new(big.Rat).SetInt(factor)
		if e < 0 {
			power.Inv(power)
		}
		product.Mul(product, power)
	}
	return product
}

func wantErr(t *testing.T, what string, got, want api.Errno) {
	t.Helper()
	if got != want {
		t.Errorf("%s: error %d, want %d", what, got, want)
	}
}
