// Package fraction is no chapter: it holds what the layers have in common for fractions whose parts are at most
// api.MaxPart in size, which are called small. Each function takes small fractions, Error and Whole take any.
package fraction

import (
	"cmp"

	"agraffe/api"
	"agraffe/whole"
)

// Error looks at the form first: the parts of a fraction in a wrong form mean nothing.
func Error(f api.Frac) api.Errno {
	if f.Den < 1 || whole.CommonDivisor(whole.Size(f.Num), whole.Size(f.Den)) != 1 {
		return api.ErrForm
	}
	if !isSmall(f) {
		return api.ErrRange
	}
	return api.OK
}

func isSmall(f api.Frac) bool {
	return whole.Within(f.Num, api.MaxPart) && f.Den <= api.MaxPart
}

// Whole returns a whole number as a fraction.
func Whole(n int) api.Frac {
	return api.Frac{Num: n, Den: 1}
}

// Compare returns -1, 0 or 1 as a is less than, equal to, or greater than b.
func Compare(a, b api.Frac) int {
	return cmp.Compare(a.Num*b.Den, b.Num*a.Den)
}

// Way is a calculation, step by step, each of whose results has to be small. From the first one that is not on,
// there is no result any more.
type Way struct {
	at   api.Frac
	lost bool
}

// From returns the way that begins at a fraction.
func From(f api.Frac) Way {
	return Way{at: f}
}

// End returns what a way has come to, or ErrLarge.
func (w Way) End() (api.Frac, api.Errno) {
	if w.lost {
		return api.Frac{}, api.ErrLarge
	}
	return w.at, api.OK
}

func (w Way) to(num, den int) Way {
	if w.lost {
		return w
	}
	f := whole.Reduced(num, den)
	if !isSmall(f) {
		return Way{lost: true}
	}
	return Way{at: f}
}

// Plus adds a fraction.
func (w Way) Plus(f api.Frac) Way {
	return w.to(w.at.Num*f.Den+f.Num*w.at.Den, w.at.Den*f.Den)
}

// Less takes a fraction away.
func (w Way) Less(f api.Frac) Way {
	return w.Plus(api.Frac{Num: -f.Num, Den: f.Den})
}

// Times multiplies by a fraction.
func (w Way) Times(f api.Frac) Way {
	return w.to(w.at.Num*f.Num, w.at.Den*f.Den)
}

// Over divides by a fraction other than 0.
func (w Way) Over(f api.Frac) Way {
	if f.Num < 0 {
		return w.Times(api.Frac{Num: -f.Den, Den: -f.Num})
	}
	return w.Times(api.Frac{Num: f.Den, Den: f.Num})
}
