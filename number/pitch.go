package number

import (
	"agraffe/api"
	"agraffe/whole"
)

// primes are the numbers of whose powers a pitch is the product.
var primes = [3]uint64{2, 3, 5}

// exponents are those of the primes, in their order.
type exponents [3]int

func exponentsOf(p api.Pitch) exponents {
	return exponents{p.Two, p.Three, p.Five}
}

// lowest divides exponents and their denominator by what they have in common.
func lowest(e exponents, den int) (exponents, int) {
	divisor := whole.Size(den)
	for _, x := range e {
		divisor = whole.CommonDivisor(divisor, whole.Size(x))
	}
	for i := range e {
		e[i] /= int(divisor)
	}
	return e, den / int(divisor)
}

// pitchOf answers ErrLarge only for a normal form that is not valid: what is not yet in normal form may be larger.
func pitchOf(e exponents, den int) (api.Pitch, api.Errno) {
	e, den = lowest(e, den)
	p := api.Pitch{Two: e[0], Three: e[1], Five: e[2], Den: den}
	if CheckPitch(p) != api.OK {
		return api.Pitch{}, api.ErrLarge
	}
	return p, api.OK
}

// sides returns the product of the powers above 1, and that of the reciprocals of those below 1.
func sides(e exponents) (natural, natural) {
	over, under := natural{1}, natural{1}
	for i, prime := range primes {
		if e[i] > 0 {
			over = withPower(over, prime, e[i])
		} else {
			under = withPower(under, prime, -e[i])
		}
	}
	return over, under
}

func compareToOne(e exponents) int {
	return compareNaturals(sides(e))
}

// CheckPitch returns ErrRange for a pitch that is not valid (P1.3).
func CheckPitch(p api.Pitch) api.Errno {
	if p.Den < 1 || p.Den > api.MaxDen {
		return api.ErrRange
	}
	for _, x := range exponentsOf(p) {
		if !whole.Within(x, api.MaxExponent) {
			return api.ErrRange
		}
	}
	return api.OK
}

// Normal returns a pitch in normal form (P1.3).
func Normal(p api.Pitch) (api.Pitch, api.Errno) {
	if e := CheckPitch(p); e != api.OK {
		return api.Pitch{}, e
	}
	return pitchOf(exponentsOf(p), p.Den)
}

// Join returns the product of two pitches (P1.3).
func Join(p, q api.Pitch) (api.Pitch, api.Errno) {
	if e := firstError(CheckPitch(p), CheckPitch(q)); e != api.OK {
		return api.Pitch{}, e
	}
	sum, other := exponentsOf(p), exponentsOf(q)
	for i := range sum {
		sum[i] = sum[i]*q.Den + other[i]*p.Den
	}
	return pitchOf(sum, p.Den*q.Den)
}

// Power returns the power of a pitch with a fraction as its exponent (P1.3).
func Power(p api.Pitch, by api.Frac) (api.Pitch, api.Errno) {
	if e := firstError(CheckPitch(p), CheckFrac(by)); e != api.OK {
		return api.Pitch{}, e
	}
	raised := exponentsOf(p)
	for i := range raised {
		raised[i] *= by.Num
	}
	return pitchOf(raised, p.Den*by.Den)
}

// Order returns -1, 0 or 1 as p is less than, equal to, or greater than q (P1.3).
// A pitch and its powers with positive exponents are on the same side of 1, so the quotient is compared without its denominator.
func Order(p, q api.Pitch) (int, api.Errno) {
	if e := firstError(CheckPitch(p), CheckPitch(q)); e != api.OK {
		return 0, e
	}
	quotient, other := exponentsOf(p), exponentsOf(q)
	for i := range quotient {
		quotient[i] = quotient[i]*q.Den - other[i]*p.Den
	}
	quotient, _ = lowest(quotient, p.Den*q.Den)
	return compareToOne(quotient), api.OK
}

// Octave returns p divided by the power of 2 that brings it to 1 or between 1 and 2, and the exponent of this power (P1.3).
func Octave(p api.Pitch) (api.Pitch, int, api.Errno) {
	p, e := Normal(p)
	if e != api.OK {
		return api.Pitch{}, 0, e
	}
	lowered := func(octaves int) exponents {
		return exponents{p.Two - octaves*p.Den, p.Three, p.Five}
	}
	// 2, 3 and 5 together make less than five octaves.
	most := 5 * api.MaxExponent / p.Den
	octaves := greatest(-most-1, most, func(n int) bool { return compareToOne(lowered(n)) >= 0 })
	rest, e := pitchOf(lowered(octaves), p.Den)
	if e != api.OK {
		return api.Pitch{}, 0, e
	}
	return rest, octaves, api.OK
}

// Enclose returns times multiplied by the pitch, rounded down and up (P1.4).
// It compares powers with the exponent Den, which are whole on both sides.
func Enclose(p api.Pitch, times int) (api.Range, api.Errno) {
	p, e := Normal(p)
	if e != api.OK {
		return api.Range{}, e
	}
	if times < 1 || times > maxTimes {
		return api.Range{}, api.ErrRange
	}
	over, under := sides(exponentsOf(p))
	goal := withPower(over, uint64(times), p.Den)
	against := func(n int) int {
		return compareNaturals(withPower(under, uint64(n), p.Den), goal)
	}
	low := greatest(0, api.MaxNumber, func(n int) bool { return against(n) <= 0 })
	// A pitch is above 0, so that 0 is never exact; and 0 is no natural that could be compared.
	high := low
	if low == 0 || against(low) < 0 {
		high++
	}
	if high > api.MaxNumber {
		return api.Range{}, api.ErrLarge
	}
	return api.Range{Lo: low, Hi: high}, api.OK
}
