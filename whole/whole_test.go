package whole_test

import (
	"math"
	"math/big"
	"testing"

	"agraffe/api"
	"agraffe/whole"
)

// extremes are the numbers at which arithmetic with ints goes wrong first.
var extremes = []int{math.MinInt, math.MinInt + 1, -7, -2, -1, 0, 1, 2, 3, 6, math.MaxInt - 1, math.MaxInt}

func TestBounds(t *testing.T) {
	for _, c := range []struct {
		n, low, high int
		want         bool
	}{
		{3, 3, 5, true}, {5, 3, 5, true}, {2, 3, 5, false}, {6, 3, 5, false}, {4, 5, 3, false},
		{-5, -5, 5, true}, {math.MinInt, -5, 5, false}, {math.MaxInt, -5, 5, false}, {math.MinInt, math.MinInt, math.MaxInt, true},
	} {
		if got := whole.Between(c.n, c.low, c.high); got != c.want {
			t.Errorf("%d from %d to %d: %t", c.n, c.low, c.high, got)
		}
		if e := whole.RangeError(c.n, c.low, c.high); e != map[bool]api.Errno{true: api.OK, false: api.ErrRange}[c.want] {
			t.Errorf("%d from %d to %d: error %d", c.n, c.low, c.high, e)
		}
	}
	for _, c := range []struct {
		n, most int
		want    bool
	}{{5, 5, true}, {-5, 5, true}, {6, 5, false}, {-6, 5, false}, {0, 0, true}, {math.MinInt, math.MaxInt, false}, {math.MinInt + 1, math.MaxInt, true}} {
		if got := whole.Within(c.n, c.most); got != c.want {
			t.Errorf("%d within %d: %t", c.n, c.most, got)
		}
	}
}

func TestInside(t *testing.T) {
	for _, c := range []struct {
		low, high int
		want      bool
	}{{3, 5, true}, {4, 4, true}, {2, 4, false}, {4, 6, false}, {5, 4, false}, {math.MinInt, 4, false}, {4, math.MaxInt, false}} {
		if got := whole.Inside(api.Range{Lo: c.low, Hi: c.high}, 3, 5); got != c.want {
			t.Errorf("%d to %d: %t", c.low, c.high, got)
		}
	}
}

func TestAscentError(t *testing.T) {
	for _, c := range []struct {
		l    []int
		want api.Errno
	}{
		{nil, api.OK}, {[]int{1}, api.OK}, {[]int{1, 2, 9}, api.OK},
		{[]int{0}, api.ErrRange}, {[]int{1, 10}, api.ErrRange}, {[]int{math.MinInt}, api.ErrRange},
		{[]int{2, 2}, api.ErrOrder}, {[]int{3, 2}, api.ErrOrder},
		{[]int{3, 2, 10}, api.ErrOrder}, {[]int{3, 0, 2}, api.ErrRange},
	} {
		if e := whole.AscentError(c.l, 1, 9); e != c.want {
			t.Errorf("%v: error %d, want %d", c.l, e, c.want)
		}
	}
}

func TestSizes(t *testing.T) {
	for _, n := range extremes {
		want := new(big.Int).Abs(big.NewInt(int64(n)))
		if got := whole.Size(n); !want.IsUint64() || want.Uint64() != got {
			t.Errorf("the size of %d: %d", n, got)
		}
	}
	for _, c := range [][3]uint64{{0, 0, 0}, {0, 4, 4}, {4, 0, 4}, {12, 18, 6}, {7, 5, 1}, {1 << 63, 6, 2}, {1 << 63, 1 << 63, 1 << 63}} {
		if got := whole.CommonDivisor(c[0], c[1]); got != c[2] {
			t.Errorf("the common divisor of %d and %d: %d", c[0], c[1], got)
		}
	}
}

func TestDivisions(t *testing.T) {
	for _, n := range extremes {
		for _, by := range []int{1, 2, 3, 7, math.MaxInt} {
			a, b := big.NewInt(int64(n)), big.NewInt(int64(by))
			down := new(big.Int).Div(a, b)
			up := new(big.Int).Neg(new(big.Int).Div(new(big.Int).Neg(a), b))
			if got := whole.Down(n, by); down.Int64() != int64(got) {
				t.Errorf("%d by %d, rounded down: %d, want %d", n, by, got, down)
			}
			if got := whole.Up(n, by); up.Int64() != int64(got) {
				t.Errorf("%d by %d, rounded up: %d, want %d", n, by, got, up)
			}
		}
	}
}

func TestReduced(t *testing.T) {
	for _, c := range []struct {
		num, den int
		want     api.Frac
	}{
		{6, 4, api.Frac{Num: 3, Den: 2}}, {-6, 4, api.Frac{Num: -3, Den: 2}}, {0, 7, api.Frac{Den: 1}}, {5, 1, api.Frac{Num: 5, Den: 1}},
		{math.MinInt, 6, api.Frac{Num: math.MinInt / 2, Den: 3}}, {1, math.MaxInt, api.Frac{Num: 1, Den: math.MaxInt}},
	} {
		if got := whole.Reduced(c.num, c.den); got != c.want {
			t.Errorf("%d/%d: %v, want %v", c.num, c.den, got, c.want)
		}
	}
}
