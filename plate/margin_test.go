package plate_test

import (
	"math"
	"testing"

	"agraffe/api"
	"agraffe/plate"
)

// P3.6: the example, roundings and the greatest numbers.
func TestMargin(t *testing.T) {
	for _, c := range []struct {
		load, limit api.Frac
		want        int
	}{
		{frac(3, 2), frac(4, 1), 2666},
		{frac(4, 1), frac(3, 2), 375},
		{frac(1, 1), frac(0, 1), 0},
		{frac(1, 1), frac(1, 1), 1000},
		{frac(1001, 1), frac(1, 1), 0},
		{frac(1000000, 1), frac(1, 1000000), 0},
		{frac(1, 1000000), frac(1000000, 1), 1000000000000000},
		{frac(999999, 1000000), frac(1000000, 999999), 1000},
		{frac(7, 3), frac(7, 3), 1000},
	} {
		if n, e := plate.Margin(c.load, c.limit); n != c.want || e != api.OK {
			t.Errorf("Margin of %v and %v: %d, error %d, want %d", c.load, c.limit, n, e, c.want)
		}
	}
	r := dice()
	for range 1000 {
		load, limit := randomFrac(from(r, 1, 1000000), from(r, 1, 1000000)), randomFrac(from(r, 0, 1000000), from(r, 1, 1000000))
		want := roundedDown(quotient(product(whole(1000), ratOf(limit)), ratOf(load)))
		if n, e := plate.Margin(load, limit); n != want || e != api.OK {
			t.Fatal(load, limit, n, e, want)
		}
	}
}

func randomFrac(num, den int) api.Frac {
	x := quotient(whole(num), whole(den))
	return frac(int(x.Num().Int64()), int(x.Denom().Int64()))
}

// P3.6: the errors of the load, then those of the limit, then that of a load of 0.
func TestMarginErrors(t *testing.T) {
	one, none := frac(1, 1), frac(0, 1)
	for _, c := range []struct {
		f    api.Frac
		want api.Errno
	}{
		{frac(2, 4), api.ErrForm}, {frac(0, 2), api.ErrForm}, {frac(0, 0), api.ErrForm}, {frac(1, -2), api.ErrForm}, {frac(1, 0), api.ErrForm},
		{frac(2000002, 2), api.ErrForm}, {frac(-3, 3000003), api.ErrForm}, {frac(math.MinInt, math.MinInt), api.ErrForm},
		{frac(-1, 1), api.ErrRange}, {frac(1000001, 1), api.ErrRange}, {frac(1, 1000001), api.ErrRange}, {frac(-1, 1000001), api.ErrRange},
		{frac(1, 2000000000), api.ErrRange}, {frac(2000000001, 1), api.ErrRange}, {frac(math.MinInt, 1), api.ErrRange}, {frac(math.MaxInt, 1), api.ErrRange},
	} {
		for _, other := range []api.Frac{one, none, frac(2, 2), frac(-5, 3)} {
			n, e := plate.Margin(c.f, other)
			wantErr(t, "Margin of a wrong load", e, c.want)
			if n != 0 {
				t.Errorf("%v: %d beside an error", c.f, n)
			}
		}
		for _, load := range []api.Frac{one, none} {
			n, e := plate.Margin(load, c.f)
			wantErr(t, "Margin of a wrong limit", e, c.want)
			if n != 0 {
				t.Errorf("%v: %d beside an error", c.f, n)
			}
		}
	}
	for _, limit := range []api.Frac{one, none, frac(1000000, 1)} {
		if n, e := plate.Margin(none, limit); n != 0 || e != api.ErrZero {
			t.Errorf("no load: %d, error %d", n, e)
		}
	}
}
