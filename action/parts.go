package action

import (
	"cmp"
	"slices"

	"agraffe/api"
	"agraffe/fraction"
)

// knee returns a corner with whole numbers.
func knee(x, y int) api.Knee {
	return api.Knee{X: fraction.Whole(x), Y: fraction.Whole(y)}
}

func missingPart(a api.Action, part string) api.Errno {
	if !slices.ContainsFunc(a.Parts, partNamed(part)) {
		return api.ErrMissing
	}
	return api.OK
}

func dipError(a api.Action, dip api.Frac) api.Errno {
	if e := fraction.Error(dip); e != api.OK {
		return e
	}
	if dip.Num < 0 || fraction.Compare(dip, fraction.Whole(a.Dip)) > 0 {
		return api.ErrRange
	}
	return api.OK
}

// CurveOf returns the curve of a part, from the dip on (P4.5).
func CurveOf(a api.Action, part string) (api.Curve, api.Errno) {
	if e := cmp.Or(CheckAction(a), missingPart(a, part)); e != api.OK {
		return api.Curve{}, e
	}
	return curveOf(a, part)
}

// curveOf ends, because a driver is always an earlier part.
func curveOf(a api.Action, part string) (api.Curve, api.Errno) {
	p := a.Parts[slices.IndexFunc(a.Parts, partNamed(part))]
	driver := api.Curve{Corners: []api.Knee{knee(0, 0), knee(a.Dip, a.Dip)}}
	if p.Driver != "" {
		c, e := curveOf(a, p.Driver)
		if e != api.OK {
			return api.Curve{}, e
		}
		driver = c
	}
	return composed(p.Curve, driver)
}

// curveAt is for functions with a part and a dip.
func curveAt(a api.Action, part string, dip api.Frac) (api.Curve, api.Errno) {
	if e := cmp.Or(CheckAction(a), missingPart(a, part), dipError(a, dip)); e != api.OK {
		return api.Curve{}, e
	}
	return curveOf(a, part)
}

// Position returns the position of a part (P4.5).
func Position(a api.Action, part string, dip api.Frac) (api.Frac, api.Errno) {
	c, e := curveAt(a, part, dip)
	if e != api.OK {
		return api.Frac{}, e
	}
	return valueAt(c, dip)
}

// Ratio returns the ratio of a part (P4.5).
func Ratio(a api.Action, part string, dip api.Frac) (api.Frac, api.Errno) {
	c, e := curveAt(a, part, dip)
	if e != api.OK {
		return api.Frac{}, e
	}
	return slopeAt(c, dip), api.OK
}
