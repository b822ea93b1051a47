package number_test

import (
	"fmt"
	"math"
	"math/big"
	"math/rand/v2"
	"testing"

	"agraffe/api"
	"agraffe/number"
)

const most = 1000000000000000

func TestCheckRange(t *testing.T) {
	for _, c := range []struct {
		r    api.Range
		want api.Errno
	}{
		{span(0, 0), api.OK}, {span(-3, 5), api.OK}, {span(-most, most), api.OK}, {span(most, most), api.OK}, {span(-most, -most), api.OK},
		{span(-most-1, 0), api.ErrRange}, {span(0, most+1), api.ErrRange}, {span(most+1, most+1), api.ErrRange}, {span(-most-1, -most-1), api.ErrRange},
		{span(most+1, 0), api.ErrRange}, {span(0, -most-1), api.ErrRange}, {span(math.MinInt, math.MaxInt), api.ErrRange}, {span(math.MaxInt, math.MinInt), api.ErrRange},
		{span(math.MinInt, math.MinInt), api.ErrRange},
		{span(1, 0), api.ErrOrder}, {span(most, -most), api.ErrOrder},
	} {
		wantErr(t, fmt.Sprint(c.r), number.CheckRange(c.r), c.want)
	}
}

func TestPlus(t *testing.T) {
	for _, c := range []struct {
		a, b, want api.Range
		err        api.Errno
	}{
		{span(-3, 5), span(10, 20), span(7, 25), api.OK},
		{span(0, 0), span(0, 0), span(0, 0), api.OK},
		{span(-most, most), span(0, 0), span(-most, most), api.OK},
		{span(-most, 0), span(most, most), span(0, most), api.OK},
		{span(0, most), span(0, 1), api.Range{}, api.ErrLarge},
		{span(-most, 0), span(-1, 0), api.Range{}, api.ErrLarge},
		{span(most, most), span(most, most), api.Range{}, api.ErrLarge},
		{span(1, 0), span(most+1, 0), api.Range{}, api.ErrOrder},
		{span(most+1, 0), span(1, 0), api.Range{}, api.ErrRange},
		{span(0, 0), span(1, 0), api.Range{}, api.ErrOrder},
		{span(0, 0), span(0, math.MaxInt), api.Range{}, api.ErrRange},
	} {
		if got, e := number.Plus(c.a, c.b); got != c.want || e != c.err {
			t.Errorf("Plus of %v and %v: %v, %d, want %v, %d", c.a, c.b, got, e, c.want, c.err)
		}
	}
}

func TestScaled(t *testing.T) {
	for _, c := range []struct {
		r    api.Range
		by   api.Frac
		want api.Range
		err  api.Errno
	}{
		{span(-3, 5), frac(-2, 3), span(-4, 2), api.OK},
		{span(-3, 5), frac(2, 3), span(-2, 4), api.OK},
		{span(-3, 5), frac(0, 1), span(0, 0), api.OK},
		{span(-most, most), frac(0, 1), span(0, 0), api.OK},
		{span(-3, 5), frac(1, 1), span(-3, 5), api.OK},
		{span(-3, 5), frac(-1, 1), span(-5, 3), api.OK},
		{span(7, 7), frac(1, 2), span(3, 4), api.OK},
		{span(-7, -7), frac(1, 2), span(-4, -3), api.OK},
		{span(6, 6), frac(1, 2), span(3, 3), api.OK},
		{span(-most, most), frac(1, 1), span(-most, most), api.OK},
		{span(-most, most), frac(-1, 1), span(-most, most), api.OK},
		{span(-most, most), frac(1, 1000000000), span(-1000000, 1000000), api.OK},
		{span(-most, most), frac(999999999, 1000000000), span(-999999999000000, 999999999000000), api.OK},
		{span(-1000000, 1000000), frac(1000000000, 1), span(-most, most), api.OK},
		{span(-1000000, 1000000), frac(-1000000000, 1), span(-most, most), api.OK},
		{span(-1000000001, 1000000001), frac(999999999, 1000), span(-most, most), api.OK},
		{span(-1000000001, 1000000001), frac(-999999999, 1000), span(-most, most), api.OK},
		{span(0, 1000000002), frac(999999999, 1000), api.Range{}, api.ErrLarge},
		{span(0, 142857142857142), frac(7, 1), span(0, 999999999999994), api.OK},
		{span(0, 142857142857143), frac(7, 1), api.Range{}, api.ErrLarge},
		{span(-142857142857143, 0), frac(7, 1), api.Range{}, api.ErrLarge},
		{span(0, 1<<40), frac(1<<24, 1), api.Range{}, api.ErrLarge},
		{span(-1<<40, 0), frac(1<<24, 1), api.Range{}, api.ErrLarge},
		{span(0, 1000001), frac(1000000000, 1), api.Range{}, api.ErrLarge},
		{span(-1000001, 0), frac(1000000000, 1), api.Range{}, api.ErrLarge},
		{span(0, 1000001), frac(-1000000000, 1), api.Range{}, api.ErrLarge},
		{span(0, most), frac(1000000000, 999999999), api.Range{}, api.ErrLarge},
		{span(-most, 0), frac(1000000000, 999999999), api.Range{}, api.ErrLarge},
		{span(0, most), frac(1000000000, 1), api.Range{}, api.ErrLarge},
		{span(-most, most), frac(1000000000, 1), api.Range{}, api.ErrLarge},
		{span(1, 0), frac(2, 4), api.Range{}, api.ErrOrder},
		{span(most+1, 0), frac(2, 4), api.Range{}, api.ErrRange},
		{span(0, most), frac(2, 4), api.Range{}, api.ErrForm},
		{span(0, most), frac(1000000001, 1), api.Range{}, api.ErrRange},
		{span(0, most), frac(math.MinInt, 1), api.Range{}, api.ErrRange},
	} {
		if got, e := number.Scaled(c.r, c.by); got != c.want || e != c.err {
			t.Errorf("Scaled of %v by %v: %v, %d, want %v, %d", c.r, c.by, got, e, c.want, c.err)
		}
	}
}

func randomRange(r *rand.Rand) api.Range {
	size := max(most>>from(r, 0, 48), 1)
	a, b := from(r, -size, size), from(r, -size, size)
	return span(min(a, b), max(a, b))
}

func TestScaledAgainstBig(t *testing.T) {
	r := dice()
	large := 0
	for range 20000 {
		bounds, by := randomRange(r), randomFrac(r)
		a := new(big.Rat).Mul(big.NewRat(int64(bounds.Lo), 1), ratOf(by))
		b := new(big.Rat).Mul(big.NewRat(int64(bounds.Hi), 1), ratOf(by))
		if by.Num < 0 {
			a, b = b, a
		}
		low, high := roundedDown(a), roundedUp(b)
		want, wantedErr := api.Range{}, api.ErrLarge
		if low.CmpAbs(big.NewInt(most)) <= 0 && high.CmpAbs(big.NewInt(most)) <= 0 {
			want, wantedErr = span(int(low.Int64()), int(high.Int64())), api.OK
		} else {
			large++
		}
		if got, e := number.Scaled(bounds, by); got != want || e != wantedErr {
			t.Fatal(bounds, by, got, e, want, wantedErr)
		}
	}
	if large == 0 {
		t.Error("no product was too large")
	}
}

func TestMeet(t *testing.T) {
	for _, c := range []struct {
		a, b, want api.Range
		err        api.Errno
	}{
		{span(-3, 5), span(0, 20), span(0, 5), api.OK},
		{span(0, 20), span(-3, 5), span(0, 5), api.OK},
		{span(-3, 5), span(0, 2), span(0, 2), api.OK},
		{span(-3, 5), span(5, 9), span(5, 5), api.OK},
		{span(-most, most), span(-most, -most), span(-most, -most), api.OK},
		{span(-3, 5), span(6, 9), api.Range{}, api.ErrNone},
		{span(6, 9), span(-3, 5), api.Range{}, api.ErrNone},
		{span(1, 0), span(most+1, 0), api.Range{}, api.ErrOrder},
		{span(most+1, 0), span(1, 0), api.Range{}, api.ErrRange},
		{span(3, 5), span(1, 0), api.Range{}, api.ErrOrder},
		{span(3, 5), span(math.MinInt, 0), api.Range{}, api.ErrRange},
	} {
		if got, e := number.Meet(c.a, c.b); got != c.want || e != c.err {
			t.Errorf("Meet of %v and %v: %v, %d, want %v, %d", c.a, c.b, got, e, c.want, c.err)
		}
	}
}
