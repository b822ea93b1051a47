package number

import (
	"agraffe/api"
	"agraffe/whole"
)

// CheckRange returns ErrRange for a bound that is too great in size, ErrOrder for bounds in the wrong order (P1.5).
func CheckRange(r api.Range) api.Errno {
	if !whole.Within(r.Lo, api.MaxNumber) || !whole.Within(r.Hi, api.MaxNumber) {
		return api.ErrRange
	}
	if r.Lo > r.Hi {
		return api.ErrOrder
	}
	return api.OK
}

// Plus returns the sums of the bounds (P1.5).
func Plus(a, b api.Range) (api.Range, api.Errno) {
	if e := firstError(CheckRange(a), CheckRange(b)); e != api.OK {
		return api.Range{}, e
	}
	sum := api.Range{Lo: a.Lo + b.Lo, Hi: a.Hi + b.Hi}
	if CheckRange(sum) != api.OK {
		return api.Range{}, api.ErrLarge
	}
	return sum, api.OK
}

// Scaled returns the least range with whole bounds that contains all numbers of r multiplied by by (P1.5).
func Scaled(r api.Range, by api.Frac) (api.Range, api.Errno) {
	if e := firstError(CheckRange(r), CheckFrac(by)); e != api.OK {
		return api.Range{}, e
	}
	if by.Num < 0 {
		r.Lo, r.Hi = r.Hi, r.Lo
	}
	low, lowFits := productDown(r.Lo, by)
	high, highFits := productDown(r.Hi, api.Frac{Num: -by.Num, Den: by.Den})
	if !lowFits || !highFits {
		return api.Range{}, api.ErrLarge
	}
	return api.Range{Lo: low, Hi: -high}, api.OK
}

// productDown returns n multiplied by a fraction, rounded down, and whether that may be a bound of a range.
// The whole product may be beyond an int: n is divided first, and its remainder multiplied apart.
func productDown(n int, by api.Frac) (int, bool) {
	if by.Num == 0 {
		return 0, true
	}
	quotient := whole.Down(n, by.Den)
	remainder := n - quotient*by.Den
	// What the remainder adds is at most MaxPart in size: it cannot bring such a product back.
	if whole.Size(quotient) > 2*api.MaxNumber/whole.Size(by.Num) {
		return 0, false
	}
	product := quotient*by.Num + whole.Down(remainder*by.Num, by.Den)
	return product, whole.Within(product, api.MaxNumber)
}

// Meet returns the range that two ranges have in common (P1.5).
func Meet(a, b api.Range) (api.Range, api.Errno) {
	if e := firstError(CheckRange(a), CheckRange(b)); e != api.OK {
		return api.Range{}, e
	}
	common := api.Range{Lo: max(a.Lo, b.Lo), Hi: min(a.Hi, b.Hi)}
	if common.Lo > common.Hi {
		return api.Range{}, api.ErrNone
	}
	return common, api.OK
}
