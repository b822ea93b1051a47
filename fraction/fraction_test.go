package fraction_test

import (
	"math"
	"math/big"
	"math/rand/v2"
	"testing"

	"agraffe/api"
	"agraffe/fraction"
)

func frac(num, den int) api.Frac {
	return api.Frac{Num: num, Den: den}
}

func TestError(t *testing.T) {
	for _, c := range []struct {
		f    api.Frac
		want api.Errno
	}{
		{frac(0, 1), api.OK}, {frac(-3, 7), api.OK}, {frac(-1000000000, 999999999), api.OK}, {frac(999999999, 1000000000), api.OK},
		{frac(0, 0), api.ErrForm}, {frac(0, 2), api.ErrForm}, {frac(1, -2), api.ErrForm}, {frac(2, 4), api.ErrForm},
		{frac(1, math.MinInt), api.ErrForm}, {frac(math.MinInt, 2), api.ErrForm}, {frac(2000000002, 2), api.ErrForm},
		{frac(1000000001, 1), api.ErrRange}, {frac(-1000000001, 1), api.ErrRange}, {frac(1, 1000000001), api.ErrRange},
		{frac(math.MinInt, 1), api.ErrRange}, {frac(math.MinInt, math.MaxInt), api.ErrRange},
	} {
		if e := fraction.Error(c.f); e != c.want {
			t.Errorf("%v: error %d, want %d", c.f, e, c.want)
		}
	}
}

func TestWhole(t *testing.T) {
	for _, n := range []int{0, 5, -7, math.MinInt, math.MaxInt} {
		if f := fraction.Whole(n); f != frac(n, 1) {
			t.Error(n, f)
		}
	}
}

// One step more is a step of its own: what is too large stays so, even if a later step would lead back.
func TestWays(t *testing.T) {
	most, least := frac(1000000000, 1), frac(1, 1000000000)
	for _, c := range []struct {
		what string
		w    fraction.Way
		want api.Frac
		err  api.Errno
	}{
		{"no step", fraction.From(frac(-2, 3)), frac(-2, 3), api.OK},
		{"all steps", fraction.From(frac(1, 2)).Plus(frac(1, 3)).Less(frac(1, 6)).Times(frac(9, 4)).Over(frac(-3, 5)), frac(-5, 2), api.OK},
		{"to 0", fraction.From(frac(2, 3)).Less(frac(2, 3)), frac(0, 1), api.OK},
		{"0 by a number below 0", fraction.From(frac(0, 1)).Over(frac(-2, 3)), frac(0, 1), api.OK},
		{"to the most", fraction.From(frac(999999999, 1)).Plus(frac(1, 1)), most, api.OK},
		{"to the least", fraction.From(least).Times(frac(-1, 1)), frac(-1, 1000000000), api.OK},
		{"by the least", fraction.From(frac(1, 1)).Over(frac(-1, 1000000000)), frac(-1000000000, 1), api.OK},
		{"beyond the most", fraction.From(most).Plus(least), api.Frac{}, api.ErrLarge},
		{"below", fraction.From(frac(-1000000000, 1)).Less(frac(1, 1)), api.Frac{}, api.ErrLarge},
		{"a great denominator", fraction.From(frac(1, 999999999)).Plus(least), api.Frac{}, api.ErrLarge},
		{"beyond and back", fraction.From(most).Plus(frac(1, 1)).Less(frac(1, 1)), api.Frac{}, api.ErrLarge},
		{"beyond and back by factors", fraction.From(most).Times(frac(2, 1)).Over(frac(2, 1)), api.Frac{}, api.ErrLarge},
		{"beyond and to 0", fraction.From(most).Times(frac(2, 1)).Times(frac(0, 1)).Plus(frac(1, 1)).Over(frac(-3, 1)), api.Frac{}, api.ErrLarge},
	} {
		if f, e := c.w.End(); f != c.want || e != c.err {
			t.Errorf("%s: %v, error %d, want %v, error %d", c.what, f, e, c.want, c.err)
		}
	}
}

func TestStepsAgainstBig(t *testing.T) {
	r := rand.New(rand.NewPCG(7, 8))
	random := func() (api.Frac, *big.Rat) {
		most := []int64{3, 40, 30000, 1000000000}[r.IntN(4)]
		x := big.NewRat(r.Int64N(2*most+1)-most, 1+r.Int64N(most))
		return frac(int(x.Num().Int64()), int(x.Denom().Int64())), x
	}
	small := big.NewInt(api.MaxPart)
	for range 20000 {
		f, x := random()
		g, y := random()
		if got := fraction.Compare(f, g); got != x.Cmp(y) {
			t.Fatal(f, g, got)
		}
		ways := []fraction.Way{fraction.From(f).Plus(g), fraction.From(f).Less(g), fraction.From(f).Times(g)}
		want := []*big.Rat{new(big.Rat).Add(x, y), new(big.Rat).Sub(x, y), new(big.Rat).Mul(x, y)}
		if g.Num != 0 {
			ways, want = append(ways, fraction.From(f).Over(g)), append(want, new(big.Rat).Quo(x, y))
		}
		for i, w := range ways {
			got, e := w.End()
			fits := want[i].Num().CmpAbs(small) <= 0 && want[i].Denom().Cmp(small) <= 0
			if !fits && (e != api.ErrLarge || got != api.Frac{}) {
				t.Fatal(f, g, i, got, e)
			}
			if fits && (e != api.OK || got.Den < 1 || big.NewInt(int64(got.Num)).Cmp(want[i].Num()) != 0 || big.NewInt(int64(got.Den)).Cmp(want[i].Denom()) != 0) {
				t.Fatal(f, g, i, got, e, want[i])
			}
		}
	}
}
