package action

import (
	"cmp"
	"slices"

	"agraffe/api"
	"agraffe/fraction"
	"agraffe/whole"
)

// stretch is the part of a curve from a corner to the next one.
type stretch struct {
	from, to api.Knee
	slope    api.Frac
}

// stretchBetween takes corners whose parts are right.
func stretchBetween(from, to api.Knee) (stretch, api.Errno) {
	if fraction.Compare(from.X, to.X) >= 0 {
		return stretch{}, api.ErrOrder
	}
	run, e := fraction.From(to.X).Less(from.X).End()
	if e != api.OK {
		return stretch{}, e
	}
	slope, e := fraction.From(to.Y).Less(from.Y).Over(run).End()
	return stretch{from, to, slope}, e
}

// stretchAfter returns the stretch that begins at the corner n of a curve that is right, and so has no error.
func stretchAfter(c api.Curve, n int) stretch {
	s, _ := stretchBetween(c.Corners[n], c.Corners[n+1])
	return s
}

func (s stretch) height(x api.Frac) (api.Frac, api.Errno) {
	return fraction.From(x).Less(s.from.X).Times(s.slope).Plus(s.from.Y).End()
}

// crossing returns the x at which the stretch, which rises or falls, has a height.
func (s stretch) crossing(height api.Frac) (api.Frac, api.Errno) {
	return fraction.From(height).Less(s.from.Y).Over(s.slope).Plus(s.from.X).End()
}

// passes tells whether a height lies strictly between the two ends.
func (s stretch) passes(height api.Frac) bool {
	return fraction.Compare(s.from.Y, height)*fraction.Compare(height, s.to.Y) > 0
}

// CheckCurve returns the error of a curve (P4.1).
func CheckCurve(c api.Curve) api.Errno {
	if !whole.Between(len(c.Corners), 1, api.MaxCorners) {
		return api.ErrShape
	}
	for n, k := range c.Corners {
		if e := cmp.Or(fraction.Error(k.X), fraction.Error(k.Y)); e != api.OK {
			return e
		}
		if n == 0 {
			continue
		}
		if _, e := stretchBetween(c.Corners[n-1], k); e != api.OK {
			return e
		}
	}
	return api.OK
}

// Value returns the value of a curve (P4.1).
func Value(c api.Curve, x api.Frac) (api.Frac, api.Errno) {
	if e := cmp.Or(CheckCurve(c), fraction.Error(x)); e != api.OK {
		return api.Frac{}, e
	}
	return valueAt(c, x)
}

// Slope returns the slope of a curve (P4.1).
func Slope(c api.Curve, x api.Frac) (api.Frac, api.Errno) {
	if e := cmp.Or(CheckCurve(c), fraction.Error(x)); e != api.OK {
		return api.Frac{}, e
	}
	return slopeAt(c, x), api.OK
}

// cornersUpTo counts the corners whose X is at most x.
func cornersUpTo(c api.Curve, x api.Frac) int {
	isBeyond := func(k api.Knee) bool { return fraction.Compare(k.X, x) > 0 }
	if n := slices.IndexFunc(c.Corners, isBeyond); n >= 0 {
		return n
	}
	return len(c.Corners)
}

// valueAt takes a curve that is right, as slopeAt, composed and reached do.
func valueAt(c api.Curve, x api.Frac) (api.Frac, api.Errno) {
	count := cornersUpTo(c, x)
	if count == 0 {
		return c.Corners[0].Y, api.OK
	}
	if count == len(c.Corners) {
		return c.Corners[count-1].Y, api.OK
	}
	return stretchAfter(c, count-1).height(x)
}

func slopeAt(c api.Curve, x api.Frac) api.Frac {
	count := cornersUpTo(c, x)
	if count == 0 || count == len(c.Corners) {
		return fraction.Whole(0)
	}
	return stretchAfter(c, count-1).slope
}

// Compose returns the curve of a curve (P4.2).
func Compose(outer, inner api.Curve) (api.Curve, api.Errno) {
	if e := cmp.Or(CheckCurve(outer), CheckCurve(inner)); e != api.OK {
		return api.Curve{}, e
	}
	return composed(outer, inner)
}

func composed(outer, inner api.Curve) (api.Curve, api.Errno) {
	var c api.Curve
	for n, k := range inner.Corners {
		y, e := valueAt(outer, k.Y)
		if e != api.OK {
			return api.Curve{}, e
		}
		c.Corners = append(c.Corners, api.Knee{X: k.X, Y: y})
		if n == len(inner.Corners)-1 {
			break
		}
		added, e := cornersWithin(outer, inner, n)
		if e != api.OK {
			return api.Curve{}, e
		}
		c.Corners = append(c.Corners, added...)
	}
	if len(c.Corners) > api.MaxCorners {
		return api.Curve{}, api.ErrLarge
	}
	if e := CheckCurve(c); e != api.OK {
		return api.Curve{}, e
	}
	return c, api.OK
}

// cornersWithin returns the corners that the outer curve adds to the stretch of the inner one behind its corner n.
func cornersWithin(outer, inner api.Curve, n int) ([]api.Knee, api.Errno) {
	s := stretchAfter(inner, n)
	var added []api.Knee
	for _, k := range outer.Corners {
		if !s.passes(k.X) {
			continue
		}
		x, e := s.crossing(k.X)
		if e != api.OK {
			return nil, e
		}
		added = append(added, api.Knee{X: x, Y: k.Y})
	}
	if s.slope.Num < 0 {
		slices.Reverse(added)
	}
	return added, api.OK
}

// Reach returns where a curve first is at least, or at most, at a level (P4.3).
func Reach(c api.Curve, level api.Frac, falling bool) (api.Frac, api.Errno) {
	if e := cmp.Or(CheckCurve(c), fraction.Error(level)); e != api.OK {
		return api.Frac{}, e
	}
	return reached(c, level, falling)
}

func reached(c api.Curve, level api.Frac, falling bool) (api.Frac, api.Errno) {
	isThere := func(k api.Knee) bool {
		if falling {
			return fraction.Compare(k.Y, level) <= 0
		}
		return fraction.Compare(k.Y, level) >= 0
	}
	n := slices.IndexFunc(c.Corners, isThere)
	if n < 0 {
		return api.Frac{}, api.ErrNone
	}
	if n == 0 {
		return c.Corners[0].X, api.OK
	}
	return stretchAfter(c, n-1).crossing(level)
}
