package action_test

import (
	"math"
	"math/big"
	"math/rand/v2"
	"slices"
	"testing"

	"agraffe/action"
	"agraffe/api"
)

// bent is the curve of the chapter's examples.
func bent() api.Curve {
	return curve(0, 0, 10, 5, 20, 25)
}

// P4.1: the error of a curve, which all functions with curves return ahead of those of later arguments.
func TestCurveErrors(t *testing.T) {
	one, most, form, size := frac(1, 1), frac(1000000000, 1), frac(2, 4), frac(1000000001, 1)
	zero, less := frac(0, 1), frac(-1000000000, 1)
	for _, c := range []struct {
		what string
		c    api.Curve
		want api.Errno
	}{
		{"the example", bent(), api.OK},
		{"no corners", api.Curve{}, api.ErrShape},
		{"an empty list of corners", api.Curve{Corners: []api.Knee{}}, api.ErrShape},
		{"one corner", curve(3, 4), api.OK},
		{"60 corners", stairs(60), api.OK},
		{"61 corners", stairs(61), api.ErrShape},
		{"61 wrong corners", api.Curve{Corners: make([]api.Knee, 61)}, api.ErrShape},
		{"the form of X", broken(form, one), api.ErrForm},
		{"the form of Y", broken(one, form), api.ErrForm},
		{"no denominator", api.Curve{Corners: make([]api.Knee, 1)}, api.ErrForm},
		{"a denominator below 0", broken(frac(1, -2), one), api.ErrForm},
		{"X out of range", broken(size, one), api.ErrRange},
		{"Y out of range", broken(one, size), api.ErrRange},
		{"a denominator out of range", broken(one, frac(1, 1000000001)), api.ErrRange},
		{"the least int", broken(frac(math.MinInt, 1), one), api.ErrRange},
		{"X ahead of Y", broken(size, form), api.ErrRange},
		{"X ahead of Y, the other way", broken(form, size), api.ErrForm},
		{"Y ahead of the order", broken(one, one, one, size), api.ErrRange},
		{"X twice", curve(1, 1, 1, 2), api.ErrOrder},
		{"X falls", curve(1, 1, 0, 2), api.ErrOrder},
		{"X falls a little", broken(frac(1, 3), one, frac(333333333, 1000000000), one), api.ErrOrder},
		{"X rises a little", broken(frac(1, 33333), one, frac(1, 30000), one), api.OK},
		{"the order ahead of the slope", broken(one, most, zero, less), api.ErrOrder},
		{"a later corner behind the order", broken(one, one, zero, zero, form, one), api.ErrOrder},
		{"a later corner behind the slope", broken(zero, less, one, most, form, one), api.ErrLarge},
		{"a later corner ahead of its slope", broken(zero, zero, one, one, frac(2, 1), size), api.ErrRange},
		{"a difference of Y", broken(zero, less, frac(2, 1), one), api.ErrLarge},
		{"the greatest difference of Y", broken(zero, less, frac(2, 1), zero), api.OK},
		{"a difference of X", broken(less, zero, one, zero), api.ErrLarge},
		{"the greatest difference of X", broken(less, zero, zero, one), api.OK},
		{"a fine difference of X", broken(frac(1, 99999), zero, frac(1, 9999), zero), api.OK},
		{"too fine a difference of X", broken(frac(1, 1000000), zero, frac(1, 999999), zero), api.ErrLarge},
		{"too fine a difference of Y", broken(zero, frac(1, 999999), one, frac(1, 1000000)), api.ErrLarge},
		{"a steep slope", broken(zero, zero, frac(1, 1000000000), one), api.OK},
		{"too steep a slope", broken(zero, zero, frac(1, 1000000000), frac(2, 1)), api.ErrLarge},
		{"too slight a slope", broken(zero, zero, frac(2, 1), frac(1, 1000000000)), api.ErrLarge},
		{"the slope of a later stretch", curve(0, 0, 1, 0, 2, -600000000, 3, 600000000), api.ErrLarge},
	} {
		kept := slices.Clone(c.c.Corners)
		wantErr(t, "CheckCurve: "+c.what, action.CheckCurve(c.c), c.want)
		y, e := action.Value(c.c, zero)
		wantErr(t, "Value: "+c.what, e, c.want)
		s, e := action.Slope(c.c, zero)
		wantErr(t, "Slope: "+c.what, e, c.want)
		outer, e := action.Compose(c.c, curve(0, 0))
		wantErr(t, "Compose of an outer one: "+c.what, e, c.want)
		inner, e := action.Compose(curve(0, 0), c.c)
		wantErr(t, "Compose of an inner one: "+c.what, e, c.want)
		if c.want == api.OK {
			continue
		}
		if !isZero(y) || !isZero(s) || !isNoCurve(outer) || !isNoCurve(inner) || !slices.Equal(kept, c.c.Corners) {
			t.Errorf("%s: %v, %v, %v, %v beside an error", c.what, y, s, outer, inner)
		}
		for _, f := range []api.Frac{zero, form, size} {
			for what, is := range withCurve() {
				got, e := is(c.c, f)
				if wantErr(t, what+": "+c.what, e, c.want); !isZero(got) {
					t.Errorf("%s: %s: %v beside an error", what, c.what, got)
				}
			}
		}
	}
	e := action.CheckCurve(api.Curve{})
	if _, e2 := action.Compose(curve(1, 1, 1, 2), api.Curve{}); e != api.ErrShape || e2 != api.ErrOrder {
		t.Error("Compose of two wrong ones:", e, e2)
	}
}

func isZero(f api.Frac) bool {
	return f == api.Frac{}
}

// withCurve are the functions with a curve and a fraction.
func withCurve() map[string]func(c api.Curve, f api.Frac) (api.Frac, api.Errno) {
	return map[string]func(c api.Curve, f api.Frac) (api.Frac, api.Errno){
		"Value":   action.Value,
		"Slope":   action.Slope,
		"rising":  func(c api.Curve, f api.Frac) (api.Frac, api.Errno) { return action.Reach(c, f, false) },
		"falling": func(c api.Curve, f api.Frac) (api.Frac, api.Errno) { return action.Reach(c, f, true) },
	}
}

// P4.1, P4.3: the errors of the fraction, behind that of the curve and ahead of ErrLarge and ErrNone.
func TestFractionErrors(t *testing.T) {
	for _, c := range []struct {
		f    api.Frac
		want api.Errno
	}{
		{frac(2, 4), api.ErrForm}, {frac(0, 0), api.ErrForm}, {frac(1, -1), api.ErrForm}, {frac(0, 2), api.ErrForm}, {frac(math.MinInt, math.MinInt), api.ErrForm},
		{frac(1000000001, 1), api.ErrRange}, {frac(-1000000001, 1), api.ErrRange}, {frac(1, 1000000001), api.ErrRange}, {frac(math.MaxInt, 1), api.ErrRange},
	} {
		for what, is := range withCurve() {
			for _, x := range []api.Curve{bent(), curve(0, 0)} {
				got, e := is(x, c.f)
				if wantErr(t, what, e, c.want); !isZero(got) {
					t.Errorf("%s of %v: %v beside an error", what, c.f, got)
				}
			}
		}
	}
}

// P4.1: the examples, corners, both ends, and numbers on the way.
func TestValues(t *testing.T) {
	steep := curve(-1000000000, 1000000000, -500000000, 1000000000, 0, 999999999, 1, 0)
	for _, c := range []struct {
		what     string
		c        api.Curve
		x        api.Frac
		y, slope api.Frac
		err      api.Errno
	}{
		{"the first stretch", bent(), frac(4, 1), frac(2, 1), frac(1, 2), api.OK},
		{"the second stretch", bent(), frac(15, 1), frac(15, 1), frac(2, 1), api.OK},
		{"before the first corner", bent(), frac(-3, 1), frac(0, 1), frac(0, 1), api.OK},
		{"the first corner", bent(), frac(0, 1), frac(0, 1), frac(1, 2), api.OK},
		{"a corner", bent(), frac(10, 1), frac(5, 1), frac(2, 1), api.OK},
		{"just before a corner", bent(), frac(99, 10), frac(99, 20), frac(1, 2), api.OK},
		{"the last corner", bent(), frac(20, 1), frac(25, 1), frac(0, 1), api.OK},
		{"behind the last corner", bent(), frac(21, 1), frac(25, 1), frac(0, 1), api.OK},
		{"far behind", bent(), frac(1000000000, 1), frac(25, 1), frac(0, 1), api.OK},
		{"far before", bent(), frac(-1000000000, 1), frac(0, 1), frac(0, 1), api.OK},
		{"one corner", curve(5, -7), frac(5, 1), frac(-7, 1), frac(0, 1), api.OK},
		{"before one corner", curve(5, -7), frac(1, 3), frac(-7, 1), frac(0, 1), api.OK},
		{"behind one corner", curve(5, -7), frac(19, 3), frac(-7, 1), frac(0, 1), api.OK},
		{"a stretch that falls", curve(-4, 1, 2, -2), frac(1, 3), frac(-7, 6), frac(-1, 2), api.OK},
		{"a flat stretch", curve(0, 3, 5, 3, 6, 4), frac(2, 1), frac(3, 1), frac(0, 1), api.OK},
		{"a fraction as a corner", broken(frac(-1, 2), frac(1, 3), frac(1, 2), frac(4, 3)), frac(0, 1), frac(5, 6), frac(1, 1), api.OK},
		{"a difference that is too fine", broken(frac(1, 7), frac(0, 1), frac(1, 1), frac(6, 7)), frac(999999999, 1000000000), api.Frac{}, frac(1, 1), api.ErrLarge},
		{"a product that is too fine", bent(), frac(1, 1000000000), api.Frac{}, frac(1, 2), api.ErrLarge},
		{"a product that is just fine enough", bent(), frac(1, 500000000), frac(1, 1000000000), frac(1, 2), api.OK},
		{"a sum that is too fine", broken(frac(0, 1), frac(1, 3), frac(1, 1), frac(4, 3)), frac(1, 500000000), api.Frac{}, frac(1, 1), api.ErrLarge},
		{"a product that is too great", steep, frac(-499999998, 1), api.Frac{}, frac(-1, 500000000), api.ErrLarge},
		{"at a corner nothing is too great", steep, frac(0, 1), frac(999999999, 1), frac(-999999999, 1), api.OK},
		{"a quotient, not a product", steep, frac(1, 999999999), frac(999999998, 1), frac(-999999999, 1), api.OK},
		{"one beyond a small product", steep, frac(1, 1000000000), api.Frac{}, frac(-999999999, 1), api.ErrLarge},
	} {
		if y, e := action.Value(c.c, c.x); y != c.y || e != c.err {
			t.Errorf("Value: %s: %v, error %d, want %v, error %d", c.what, y, e, c.y, c.err)
		}
		if s, e := action.Slope(c.c, c.x); s != c.slope || e != api.OK {
			t.Errorf("Slope: %s: %v, error %d, want %v", c.what, s, e, c.slope)
		}
	}
}

// P4.1: values and slopes, with big numbers.
func TestValuesAgainstBig(t *testing.T) {
	r := dice()
	large := 0
	for range 20000 {
		c := someCurve(r)
		x := randomFrac(r)
		if r.IntN(3) == 0 {
			x = c.Corners[r.IntN(len(c.Corners))].X
		}
		l := ledger{}
		want, err := l.result(l.value(c, ratOf(x)))
		if y, e := action.Value(c, x); y != want || e != err {
			t.Fatal(c, x, y, e, want, err)
		}
		if err == api.ErrLarge {
			large++
		}
		slope := frac(0, 1)
		for i := range len(c.Corners) - 1 {
			a, b := c.Corners[i], c.Corners[i+1]
			if ratOf(a.X).Cmp(ratOf(x)) <= 0 && ratOf(x).Cmp(ratOf(b.X)) < 0 {
				slope, _ = new(ledger).result(new(ledger).slope(a, b))
			}
		}
		if s, e := action.Slope(c, x); s != slope || e != api.OK {
			t.Fatal(c, x, s, e, slope)
		}
	}
	if large < 100 || large > 15000 {
		t.Error(large, "values are too large")
	}
}

// P4.2: the examples, and stretches that fall, stay, and turn.
func TestCompose(t *testing.T) {
	for _, c := range []struct {
		what               string
		outer, inner, want api.Curve
	}{
		{"the example", bent(), curve(0, 0, 30, 15), curve(0, 0, 20, 5, 30, 15)},
		{"a stretch that falls", bent(), curve(0, 25, 10, -5), broken(frac(0, 1), frac(25, 1), frac(5, 3), frac(25, 1), frac(5, 1), frac(5, 1), frac(25, 3), frac(0, 1), frac(10, 1), frac(0, 1))},
		{"a flat stretch at a corner of the outer one", bent(), curve(0, 10, 7, 10), curve(0, 5, 7, 5)},
		{"up, flat and down", bent(), curve(0, 5, 10, 15, 20, 15, 30, 5), broken(frac(0, 1), frac(5, 2), frac(5, 1), frac(5, 1), frac(10, 1), frac(15, 1), frac(20, 1), frac(15, 1), frac(25, 1), frac(5, 1), frac(30, 1), frac(5, 2))},
		{"ends at corners of the outer one", bent(), curve(0, 0, 5, 10, 10, 20), curve(0, 0, 5, 5, 10, 25)},
		{"just beyond corners of the outer one", bent(), curve(0, -1, 21, 20), curve(0, 0, 1, 0, 11, 5, 21, 25)},
		{"one corner as the inner one", bent(), curve(7, 15), curve(7, 15)},
		{"one corner as the outer one", curve(3, 4), curve(0, 0, 10, 10), curve(0, 4, 3, 4, 10, 4)},
		{"one corner as the outer one, outside", curve(30, 4), curve(0, 0, 10, 10), curve(0, 4, 10, 4)},
		{"both have one corner", curve(3, 4), curve(5, 6), curve(5, 4)},
		{"a corner at which the slope does not change", curve(0, 0, 5, 5, 10, 10), curve(0, 0, 4, 4, 10, 10), curve(0, 0, 4, 4, 5, 5, 10, 10)},
	} {
		if got, e := action.Compose(c.outer, c.inner); !equalCurves(got, c.want) || e != api.OK {
			t.Errorf("%s: %v, error %d, want %v", c.what, got, e, c.want)
		}
	}
}

// zigzag goes up and down between 0 and a height.
func zigzag(count, height int) api.Curve {
	var l []int
	for i := range count {
		l = append(l, i, i%2*height)
	}
	return curve(l...)
}

// P4.2: too many corners, and each number on the way.
func TestComposeTooLarge(t *testing.T) {
	identity := curve(-1000000, -1000000, 1000000, 1000000)
	for _, c := range []struct {
		what         string
		outer, inner api.Curve
		count        int
		want         api.Errno
	}{
		{"60 corners of the outer one", stairs(60), curve(0, 0, 59, 59), 60, api.OK},
		{"61 corners", stairs(60), curve(0, -1, 59, 59), 0, api.ErrLarge},
		{"30 corners and 29 added ones", zigzag(3, 5), zigzag(30, 2), 59, api.OK},
		{"31 corners and 30 added ones", zigzag(3, 5), zigzag(31, 2), 0, api.ErrLarge},
		{"very many", zigzag(60, 1), zigzag(60, 60), 0, api.ErrLarge},
		{"60 corners of the inner one", identity, stairs(60), 60, api.OK},
		{"the difference at an added corner", broken(frac(1, 999), frac(0, 1), frac(1, 1), frac(0, 1)), broken(frac(0, 1), frac(-1, 9999999), frac(1, 1), frac(9999998, 9999999)), 0, api.ErrLarge},
		{"the quotient at an added corner", curve(0, 0, 1, 0), broken(frac(0, 1), frac(-1, 99999), frac(99999, 1), frac(99998, 99999)), 3, api.OK},
		{"too great a quotient at an added corner", broken(frac(1, 3), frac(0, 1)), broken(frac(0, 1), frac(0, 1), frac(1000000000, 1), frac(999999999, 1)), 0, api.ErrLarge},
		{"the sum at an added corner", curve(1, 0), broken(frac(1, 99999), frac(0, 1), frac(100000, 99999), frac(100000, 1)), 0, api.ErrLarge},
		{"the value at a corner", curve(0, 0, 2, 1), broken(frac(0, 1), frac(1, 1000000000), frac(1, 1), frac(1, 1)), 0, api.ErrLarge},
		{"the value at the last corner", curve(0, 0, 2, 1), broken(frac(0, 1), frac(0, 1), frac(1, 1), frac(1, 1000000000)), 0, api.ErrLarge},
		{"the value at one corner", curve(0, 0, 2, 1), broken(frac(0, 1), frac(1, 1000000000)), 0, api.ErrLarge},
		{"a slope of the result", curve(0, 0, 1, 1000000), broken(frac(0, 1), frac(0, 1), frac(1, 1001), frac(1, 1)), 0, api.ErrLarge},
		{"a slope of the result that is just small", curve(0, 0, 1, 1000000), broken(frac(0, 1), frac(0, 1), frac(1, 1000), frac(1, 1)), 2, api.OK},
		{"a difference of the result", curve(0, 0, 10007, 1), broken(frac(0, 1), frac(1, 999), frac(1, 1), frac(1, 1000)), 0, api.ErrLarge},
		{"a difference of the result that would not be small but for a corner", curve(0, -600000000, 1, 0, 2, 600000000), curve(0, 0, 1, 0, 3, 2, 4, 1), 5, api.OK},
	} {
		got, e := action.Compose(c.outer, c.inner)
		if e != c.want || e == api.OK && len(got.Corners) != c.count || e != api.OK && !isNoCurve(got) {
			t.Errorf("%s: %d corners, error %d, want %d, error %d", c.what, len(got.Corners), e, c.count, c.want)
		}
		if _, err := composed(c.outer, c.inner); err != c.want {
			t.Errorf("%s: by big numbers error %d, want %d", c.what, err, c.want)
		}
	}
}

// composed is the chapter's curve of a curve, with big numbers: it takes all corners of one stretch and sorts them.
func composed(outer, inner api.Curve) (api.Curve, api.Errno) {
	l := ledger{}
	var all []api.Knee
	for i, k := range inner.Corners {
		y, _ := new(ledger).result(l.value(outer, ratOf(k.Y)))
		all = append(all, api.Knee{X: k.X, Y: y})
		if i == 0 {
			continue
		}
		before := inner.Corners[i-1]
		low, high := ratOf(before.Y), ratOf(k.Y)
		if low.Cmp(high) > 0 {
			low, high = high, low
		}
		for _, o := range outer.Corners {
			if low.Cmp(ratOf(o.X)) < 0 && ratOf(o.X).Cmp(high) < 0 {
				x, _ := new(ledger).result(l.crossing(before, k, o.X))
				all = append(all, api.Knee{X: x, Y: o.Y})
			}
		}
	}
	if l.large || len(all) > 60 {
		return api.Curve{}, api.ErrLarge
	}
	slices.SortFunc(all, func(a, b api.Knee) int { return ratOf(a.X).Cmp(ratOf(b.X)) })
	for i := range len(all) - 1 {
		l.slope(all[i], all[i+1])
	}
	if l.large {
		return api.Curve{}, api.ErrLarge
	}
	return api.Curve{Corners: all}, api.OK
}

// P4.2: curves of curves, with big numbers.
func TestComposeAgainstBig(t *testing.T) {
	r := dice()
	large := 0
	for range 5000 {
		outer, inner := someCurve(r), someCurve(r)
		want, err := composed(outer, inner)
		if got, e := action.Compose(outer, inner); !equalCurves(got, want) || e != err {
			t.Fatal(outer, inner, got, e, want, err)
		}
		if err != api.OK {
			large++
		}
	}
	if large < 100 || large > 4000 {
		t.Error(large, "curves are too large")
	}
}

// P4.3: the examples, corners, curves that turn, levels that are not reached, and numbers on the way.
func TestReach(t *testing.T) {
	turning := curve(0, 5, 10, -5, 20, 15)
	steep := curve(0, 0, 1000000000, 999999999)
	for _, c := range []struct {
		what    string
		c       api.Curve
		level   api.Frac
		falling bool
		want    api.Frac
		err     api.Errno
	}{
		{"the example", bent(), frac(10, 1), false, frac(25, 2), api.OK},
		{"a corner", bent(), frac(5, 1), false, frac(10, 1), api.OK},
		{"the last corner", bent(), frac(25, 1), false, frac(20, 1), api.OK},
		{"just beyond the last corner", bent(), frac(251, 10), false, api.Frac{}, api.ErrNone},
		{"the first corner", bent(), frac(0, 1), false, frac(0, 1), api.OK},
		{"below the first corner", bent(), frac(-1, 1), false, frac(0, 1), api.OK},
		{"falling at the first corner", bent(), frac(0, 1), true, frac(0, 1), api.OK},
		{"falling, above the first corner", bent(), frac(3, 1), true, frac(0, 1), api.OK},
		{"falling, never", bent(), frac(-1, 9), true, api.Frac{}, api.ErrNone},
		{"falling on the way", turning, frac(0, 1), true, frac(5, 1), api.OK},
		{"falling to the turn", turning, frac(-5, 1), true, frac(10, 1), api.OK},
		{"falling beyond the turn", turning, frac(-51, 10), true, api.Frac{}, api.ErrNone},
		{"rising behind the turn", turning, frac(7, 1), false, frac(16, 1), api.OK},
		{"rising, at the first corner already", turning, frac(4, 1), false, frac(0, 1), api.OK},
		{"the first of several", zigzag(9, 4), frac(1, 1), false, frac(1, 4), api.OK},
		{"falling, the first of several", curve(0, 4, 1, 0, 2, 4, 3, 0), frac(3, 1), true, frac(1, 4), api.OK},
		{"behind a flat stretch", curve(0, 2, 5, 2, 7, 6), frac(3, 1), false, frac(11, 2), api.OK},
		{"the beginning of a flat stretch", curve(0, 0, 5, 2, 7, 2), frac(2, 1), false, frac(5, 1), api.OK},
		{"from the first corner on", curve(3, 4, 5, 6), frac(4, 1), false, frac(3, 1), api.OK},
		{"one corner", curve(3, 4), frac(4, 1), true, frac(3, 1), api.OK},
		{"one corner, never", curve(3, 4), frac(5, 1), false, api.Frac{}, api.ErrNone},
		{"a difference that is too fine", broken(frac(0, 1), frac(-1, 7), frac(1, 1), frac(6, 7)), frac(1, 1000000000), false, api.Frac{}, api.ErrLarge},
		{"a quotient that is too great", steep, frac(2, 1), false, api.Frac{}, api.ErrLarge},
		{"a quotient that is just small", steep, frac(1, 1), false, frac(1000000000, 999999999), api.OK},
		{"a corner is no way around", curve(-1000000000, 0, -1, 999999999, 0, 1000000000), frac(999999999, 1), false, frac(-1, 1), api.OK},
		{"a corner, by a quotient and a sum that are just small", broken(frac(1, 99999), frac(0, 1), frac(10000, 1), frac(1, 1)), frac(1, 1), false, frac(10000, 1), api.OK},
		{"a sum that is too great", broken(frac(1, 99999), frac(0, 1), frac(100000, 99999), frac(1, 1)), frac(1, 100000), false, api.Frac{}, api.ErrLarge},
		{"the first corner needs no way", broken(frac(1, 99999), frac(0, 1), frac(100000, 99999), frac(1, 1)), frac(-1, 1000000000), false, frac(1, 99999), api.OK},
		{"no way where there is none", steep, frac(1000000000, 1), false, api.Frac{}, api.ErrNone},
	} {
		if x, e := action.Reach(c.c, c.level, c.falling); x != c.want || e != c.err {
			t.Errorf("%s: %v, error %d, want %v, error %d", c.what, x, e, c.want, c.err)
		}
	}
}

// firstAt is the chapter's least x, with big numbers: the least one of all stretches that is not before its beginning.
func firstAt(c api.Curve, level api.Frac, falling bool) (api.Frac, api.Errno) {
	isThere := func(y api.Frac) bool {
		n := ratOf(y).Cmp(ratOf(level))
		return n == 0 || (n < 0) == falling
	}
	for i, k := range c.Corners {
		if !isThere(k.Y) {
			continue
		}
		if i == 0 {
			return k.X, api.OK
		}
		l := ledger{}
		x := l.crossing(c.Corners[i-1], k, level)
		return l.result(x)
	}
	return api.Frac{}, api.ErrNone
}

// P4.3, P4.11: reaching, with big numbers; the value there is the level, if it is not reached at once, and at no lesser
// x it is reached.
func TestReachAtRandom(t *testing.T) {
	r := dice()
	count := map[api.Errno]int{}
	for range 10000 {
		c, level, falling := someCurve(r), randomFrac(r), r.IntN(2) == 0
		if r.IntN(4) == 0 {
			level = c.Corners[r.IntN(len(c.Corners))].Y
		}
		want, err := firstAt(c, level, falling)
		x, e := action.Reach(c, level, falling)
		if x != want || e != err {
			t.Fatal(c, level, falling, x, e, want, err)
		}
		count[e]++
		if e != api.OK {
			continue
		}
		isThere := func(x *big.Rat) bool {
			n := new(ledger).value(c, x).Cmp(ratOf(level))
			return n == 0 || (n < 0) == falling
		}
		first := ratOf(c.Corners[0].X)
		if !isThere(ratOf(x)) || x != c.Corners[0].X && new(ledger).value(c, ratOf(x)).Cmp(ratOf(level)) != 0 {
			t.Fatal(c, level, falling, x)
		}
		for range 5 {
			// lesser lies from the first corner up to x, not included
			lesser := new(big.Rat).Sub(ratOf(x), first)
			lesser.Mul(lesser, big.NewRat(int64(r.IntN(1000)), 1000))
			lesser.Add(lesser, first)
			if lesser.Cmp(ratOf(x)) < 0 && isThere(lesser) {
				t.Fatal(c, level, falling, x, lesser)
			}
		}
		laterIsGreater(t, r, c, level, x, falling)
	}
	if count[api.OK] < 1000 || count[api.ErrNone] < 1000 || count[api.ErrLarge] < 20 {
		t.Error(count)
	}
}

// P4.11: a greater level (falling: a lesser one) is never reached earlier.
func laterIsGreater(t *testing.T, r *rand.Rand, c api.Curve, level, x api.Frac, falling bool) {
	t.Helper()
	other := randomFrac(r)
	later, e := action.Reach(c, other, falling)
	if e != api.OK {
		return
	}
	further := ratOf(other).Cmp(ratOf(level))
	if falling {
		further = -further
	}
	if further*ratOf(later).Cmp(ratOf(x)) < 0 {
		t.Fatal(c, level, x, other, later, falling)
	}
}

// P4.10: the value of a curve of a curve is that of the outer one at that of the inner one, also outside of the corners;
// composing is associative.
func TestComposedValues(t *testing.T) {
	r := dice()
	twice := 0
	for range 3000 {
		a, b, c := someCurve(r), someCurve(r), someCurve(r)
		ab, e := action.Compose(a, b)
		if e != api.OK {
			continue
		}
		for range 5 {
			x := ratOf(randomFrac(r))
			if new(ledger).value(ab, x).Cmp(new(ledger).value(a, new(ledger).value(b, x))) != 0 {
				t.Fatal(a, b, ab, x)
			}
		}
		bc, e := action.Compose(b, c)
		if e != api.OK {
			continue
		}
		left, e := action.Compose(ab, c)
		right, e2 := action.Compose(a, bc)
		if e != api.OK || e2 != api.OK {
			continue
		}
		twice++
		for range 5 {
			x := ratOf(randomFrac(r))
			if new(ledger).value(left, x).Cmp(new(ledger).value(right, x)) != 0 {
				t.Fatal(a, b, c, left, right, x)
			}
		}
	}
	if twice < 500 {
		t.Error("only", twice, "were composed twice")
	}
}

// P4.10: the curve with the corners (0, 0) and (n, n) changes nothing on curves whose values lie from 0 to n.
func TestComposeWithIdentity(t *testing.T) {
	r := dice()
	for range 1000 {
		n := from(r, 1, 10000)
		c := randomCurve(r, from(r, 1, 12), n, 1)
		for i := range c.Corners {
			c.Corners[i].Y.Num = max(c.Corners[i].Y.Num, 0)
		}
		if got, e := action.Compose(curve(0, 0, n, n), c); e != api.OK || !equalCurves(got, c) {
			t.Fatal(n, c, got, e)
		}
	}
}
