package number_test

import (
	"fmt"
	"math"
	"math/big"
	"testing"

	"agraffe/api"
	"agraffe/number"
)

func TestCheckFrac(t *testing.T) {
	for _, c := range []struct {
		f    api.Frac
		want api.Errno
	}{
		{frac(0, 1), api.OK}, {frac(1, 1), api.OK}, {frac(-1, 2), api.OK}, {frac(6, 35), api.OK},
		{frac(1000000000, 1), api.OK}, {frac(-1000000000, 999999999), api.OK}, {frac(-1, 1000000000), api.OK},
		{frac(0, 0), api.ErrForm}, {frac(0, 2), api.ErrForm}, {frac(1, -2), api.ErrForm}, {frac(0, -1), api.ErrForm},
		{frac(1, 0), api.ErrForm}, {frac(2, 4), api.ErrForm}, {frac(-6, 9), api.ErrForm},
		{frac(math.MinInt, 2), api.ErrForm}, {frac(math.MinInt, math.MinInt), api.ErrForm}, {frac(1, math.MinInt), api.ErrForm},
		{frac(2000000002, 2), api.ErrForm}, {frac(3, 3000000000), api.ErrForm}, {frac(2000000000, -1), api.ErrForm},
		{frac(1000000001, 1), api.ErrRange}, {frac(-1000000001, 1), api.ErrRange}, {frac(1, 1000000001), api.ErrRange},
		{frac(math.MinInt, 1), api.ErrRange}, {frac(math.MaxInt, 1), api.ErrRange}, {frac(1, math.MaxInt), api.ErrRange},
		{frac(math.MinInt, math.MaxInt), api.ErrRange},
	} {
		wantErr(t, fmt.Sprint(c.f), number.CheckFrac(c.f), c.want)
	}
}

func TestFractionArithmetic(t *testing.T) {
	half, third, zero, most := frac(1, 2), frac(-1, 3), frac(0, 1), frac(1000000000, 1)
	large := api.Frac{}
	for _, c := range []struct {
		name    string
		f       func(a, b api.Frac) (api.Frac, api.Errno)
		a, b    api.Frac
		want    api.Frac
		wantErr api.Errno
	}{
		{"Add", number.Add, half, third, frac(1, 6), api.OK},
		{"Add", number.Add, half, half, frac(1, 1), api.OK},
		{"Add", number.Add, half, frac(-1, 2), zero, api.OK},
		{"Add", number.Add, frac(999999999, 1), frac(1, 1), most, api.OK},
		{"Add", number.Add, most, frac(1, 1), large, api.ErrLarge},
		{"Add", number.Add, frac(-1000000000, 1), frac(-1, 1), large, api.ErrLarge},
		{"Add", number.Add, frac(1, 999999999), frac(1, 1000000000), large, api.ErrLarge},
		{"Add", number.Add, frac(1, 500000000), frac(1, 1000000000), frac(3, 1000000000), api.OK},
		{"Times", number.Times, half, third, frac(-1, 6), api.OK},
		{"Times", number.Times, third, third, frac(1, 9), api.OK},
		{"Times", number.Times, third, zero, zero, api.OK},
		{"Times", number.Times, most, frac(1, 1000000000), frac(1, 1), api.OK},
		{"Times", number.Times, frac(1, 100000), frac(1, 10000), frac(1, 1000000000), api.OK},
		{"Times", number.Times, frac(1, 100000), frac(1, 10001), large, api.ErrLarge},
		{"Times", number.Times, most, most, large, api.ErrLarge},
		{"Divide", number.Divide, half, third, frac(-3, 2), api.OK},
		{"Divide", number.Divide, third, third, frac(1, 1), api.OK},
		{"Divide", number.Divide, zero, third, zero, api.OK},
		{"Divide", number.Divide, third, frac(-1000000000, 1), large, api.ErrLarge},
		{"Divide", number.Divide, frac(1, 1), frac(-1, 1000000000), frac(-1000000000, 1), api.OK},
		{"Divide", number.Divide, half, zero, large, api.ErrZero},
		{"Divide", number.Divide, most, zero, large, api.ErrZero},
	} {
		got, e := c.f(c.a, c.b)
		if got != c.want || e != c.wantErr {
			t.Errorf("%s of %v and %v: %v, %d, want %v, %d", c.name, c.a, c.b, got, e, c.want, c.wantErr)
		}
	}
}

// Of two wrong fractions the first one decides, and both are looked at before what is done with them.
func TestFractionErrorsInOrder(t *testing.T) {
	good, form, size := frac(1, 2), frac(2, 4), frac(1, 1000000001)
	two := map[string]func(a, b api.Frac) (api.Frac, api.Errno){"Add": number.Add, "Times": number.Times, "Divide": number.Divide}
	two["Compare"] = func(a, b api.Frac) (api.Frac, api.Errno) {
		n, e := number.Compare(a, b)
		return frac(n, n), e
	}
	for name, f := range two {
		for _, c := range []struct {
			a, b api.Frac
			want api.Errno
		}{{form, size, api.ErrForm}, {size, form, api.ErrRange}, {good, form, api.ErrForm}, {good, size, api.ErrRange}, {form, good, api.ErrForm}, {form, frac(0, 1), api.ErrForm}, {good, frac(0, 2), api.ErrForm}} {
			got, e := f(c.a, c.b)
			wantErr(t, name+fmt.Sprint(c.a, c.b), e, c.want)
			if got != (api.Frac{}) {
				t.Error(name, c.a, c.b, "beside an error:", got)
			}
		}
	}
}

func TestFractionsAgainstBig(t *testing.T) {
	r := dice()
	for range 20000 {
		a, b := randomFrac(r), randomFrac(r)
		compareWithBig(t, "Add", a, b, number.Add, new(big.Rat).Add(ratOf(a), ratOf(b)))
		compareWithBig(t, "Times", a, b, number.Times, new(big.Rat).Mul(ratOf(a), ratOf(b)))
		if b.Num != 0 {
			compareWithBig(t, "Divide", a, b, number.Divide, new(big.Rat).Quo(ratOf(a), ratOf(b)))
		}
		if n, e := number.Compare(a, b); e != api.OK || n != ratOf(a).Cmp(ratOf(b)) {
			t.Fatal("Compare", a, b, n, e)
		}
	}
}

func compareWithBig(t *testing.T, name string, a, b api.Frac, f func(a, b api.Frac) (api.Frac, api.Errno), want *big.Rat) {
	t.Helper()
	wanted, fits := fracOf(want)
	wantedErr := api.OK
	if !fits {
		wantedErr = api.ErrLarge
	}
	if got, e := f(a, b); got != wanted || e != wantedErr {
		t.Fatalf("%s of %v and %v: %v, %d, want %v, %d", name, a, b, got, e, wanted, wantedErr)
	}
}

func TestCompare(t *testing.T) {
	for _, c := range []struct {
		a, b api.Frac
		want int
	}{
		{frac(1, 2), frac(1, 3), 1}, {frac(1, 3), frac(1, 2), -1}, {frac(1, 3), frac(1, 3), 0},
		{frac(-1, 2), frac(-1, 3), -1}, {frac(0, 1), frac(-1, 1000000000), 1},
		{frac(999999999, 1000000000), frac(999999998, 999999999), 1},
		{frac(1000000000, 1), frac(1000000000, 999999999), 1}, {frac(-1000000000, 1), frac(1000000000, 1), -1},
	} {
		if n, e := number.Compare(c.a, c.b); n != c.want || e != api.OK {
			t.Errorf("Compare of %v and %v: %d, %d, want %d", c.a, c.b, n, e, c.want)
		}
	}
}

func TestRounded(t *testing.T) {
	for _, c := range []struct {
		f     api.Frac
		times int
		want  api.Range
		err   api.Errno
	}{
		{frac(-7, 2), 1, span(-4, -3), api.OK},
		{frac(7, 2), 1, span(3, 4), api.OK},
		{frac(7, 2), 2, span(7, 7), api.OK},
		{frac(-7, 2), 4, span(-14, -14), api.OK},
		{frac(3, 1), 4, span(12, 12), api.OK},
		{frac(0, 1), 1000000000, span(0, 0), api.OK},
		{frac(1, 3), 1000000000, span(333333333, 333333334), api.OK},
		{frac(-1, 1000000000), 1, span(-1, 0), api.OK},
		{frac(1, 1000000000), 999999999, span(0, 1), api.OK},
		{frac(1, 1000000000), 1000000000, span(1, 1), api.OK},
		{frac(1000000000, 1), 1000000000, span(1000000000000000000, 1000000000000000000), api.OK},
		{frac(-1000000000, 3), 1000000000, span(-333333333333333334, -333333333333333333), api.OK},
		{frac(1, 2), 0, api.Range{}, api.ErrRange},
		{frac(1, 2), -1, api.Range{}, api.ErrRange},
		{frac(1, 2), 1000000001, api.Range{}, api.ErrRange},
		{frac(1, 2), math.MinInt, api.Range{}, api.ErrRange},
		{frac(2, 2), 0, api.Range{}, api.ErrForm},
		{frac(1, 1000000001), 1, api.Range{}, api.ErrRange},
	} {
		if got, e := number.Rounded(c.f, c.times); got != c.want || e != c.err {
			t.Errorf("Rounded(%v, %d): %v, %d, want %v, %d", c.f, c.times, got, e, c.want, c.err)
		}
	}
}

func TestFormatFrac(t *testing.T) {
	for _, c := range []struct {
		f    api.Frac
		want string
	}{
		{frac(0, 1), "0"}, {frac(5, 1), "5"}, {frac(-5, 1), "-5"}, {frac(-3, 4), "-3/4"}, {frac(1000000000, 999999999), "1000000000/999999999"},
		{frac(2, 4), "2/4"}, {frac(0, 0), "0/0"}, {frac(1, -2), "1/-2"}, {frac(7, -1), "7/-1"},
		{frac(math.MinInt, math.MaxInt), "-9223372036854775808/9223372036854775807"},
	} {
		if got := number.FormatFrac(c.f); got != c.want {
			t.Errorf("FormatFrac(%v): %q, want %q", c.f, got, c.want)
		}
	}
}

func TestParseFrac(t *testing.T) {
	for _, c := range []struct {
		s    string
		want api.Frac
		err  api.Errno
	}{
		{"0", frac(0, 1), api.OK}, {"7", frac(7, 1), api.OK}, {"-3/4", frac(-3, 4), api.OK}, {"10/3", frac(10, 3), api.OK},
		{"1000000000", frac(1000000000, 1), api.OK}, {"-1/1000000000", frac(-1, 1000000000), api.OK},
		{"2/4", api.Frac{}, api.ErrForm}, {"0/2", api.Frac{}, api.ErrForm}, {"9999999999/3333333333", api.Frac{}, api.ErrForm},
		{"1000000001", api.Frac{}, api.ErrRange}, {"9999999999", api.Frac{}, api.ErrRange}, {"-9999999999", api.Frac{}, api.ErrRange},
		{"1/9999999999", api.Frac{}, api.ErrRange},
	} {
		if got, e := number.ParseFrac(c.s); got != c.want || e != c.err {
			t.Errorf("ParseFrac(%q): %v, %d, want %v, %d", c.s, got, e, c.want, c.err)
		}
	}
	for _, s := range []string{
		"", "/", "1/", "/2", "-", "-/2", "+1", "1/+2", "-0", "00", "01", "-01", "1/02", "1/1", "-5/1", "1/0", "1/-2", "1/-0", "0/0", "0/1",
		"1/2/3", "1//2", "1/2/", " 1", "1 ", "1 /2", "1/ 2", "1\n", "1.5", "1e3", "1_000", "0x1", "a", "--1", "1-", "½", "\u0661", "1\x00", "\xff",
		"10000000000", "-10000000000", "1/10000000000", "99999999999999999999999", "1/99999999999999999999999", "-9223372036854775808", "9223372036854775807/2",
	} {
		if got, e := number.ParseFrac(s); got != (api.Frac{}) || e != api.ErrSyntax {
			t.Errorf("ParseFrac(%q): %v, %d, want ErrSyntax", s, got, e)
		}
	}
}

func TestParseFracUndoesFormatFrac(t *testing.T) {
	r := dice()
	for range 5000 {
		f := randomFrac(r)
		if got, e := number.ParseFrac(number.FormatFrac(f)); got != f || e != api.OK {
			t.Fatal(f, got, e)
		}
	}
}

func TestRoot(t *testing.T) {
	for _, c := range []struct {
		n, k, want int
		err        api.Errno
	}{
		{1000, 3, 10, api.OK}, {999, 3, 9, api.OK}, {1001, 3, 10, api.OK}, {2, 2, 1, api.OK}, {4, 2, 2, api.OK}, {3, 2, 1, api.OK},
		{0, 1, 0, api.OK}, {0, 2, 0, api.OK}, {0, 12, 0, api.OK}, {1, 12, 1, api.OK}, {4095, 12, 1, api.OK}, {4096, 12, 2, api.OK},
		{17, 1, 17, api.OK}, {1000000000000000000, 1, 1000000000000000000, api.OK}, {999999999999999999, 1, 999999999999999999, api.OK},
		{1000000000000000000, 2, 1000000000, api.OK}, {999999999999999999, 2, 999999999, api.OK},
		{1000000000000000000, 3, 1000000, api.OK}, {1000000000000000000, 9, 100, api.OK}, {999999999999999999, 9, 99, api.OK},
		{1000000000000000000, 12, 31, api.OK}, {1000000000000000000, 11, 43, api.OK},
		{-1, 2, 0, api.ErrRange}, {1000000000000000001, 2, 0, api.ErrRange}, {math.MinInt, 1, 0, api.ErrRange}, {math.MaxInt, 1, 0, api.ErrRange},
		{4, 0, 0, api.ErrRange}, {4, -1, 0, api.ErrRange}, {4, 13, 0, api.ErrRange}, {0, 0, 0, api.ErrRange}, {4, math.MaxInt, 0, api.ErrRange},
	} {
		if got, e := number.Root(c.n, c.k); got != c.want || e != c.err {
			t.Errorf("Root(%d, %d): %d, %d, want %d, %d", c.n, c.k, got, e, c.want, c.err)
		}
	}
}

func TestRootAgainstBig(t *testing.T) {
	r := dice()
	for range 5000 {
		k := from(r, 1, 12)
		n := from(r, 0, 1000000000000000000) >> from(r, 0, 59)
		root, e := number.Root(n, k)
		power := func(x int) *big.Int { return new(big.Int).Exp(big.NewInt(int64(x)), big.NewInt(int64(k)), nil) }
		goal := big.NewInt(int64(n))
		if e != api.OK || power(root).Cmp(goal) > 0 || power(root+1).Cmp(goal) <= 0 {
			t.Fatal(n, k, root, e)
		}
		if exact := power(root); exact.Sign() > 0 {
			if below, _ := number.Root(int(exact.Int64())-1, k); below != root-1 {
				t.Fatal(exact, k, below)
			}
		}
	}
}
