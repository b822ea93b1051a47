package scale

import (
	"sort"

	"agraffe/api"
	"agraffe/whole"
)

// Tension returns the tension of a strand at a frequency (P2.2).
func Tension(l []api.Wire, s api.Strand, f api.Range) (api.Range, api.Errno) {
	x, e := tunedOf(l, s, f)
	if e != api.OK {
		return api.Range{}, e
	}
	return x.tension(), api.OK
}

// Share returns the breaking share of a strand at a frequency (P2.2).
func Share(l []api.Wire, s api.Strand, f api.Range) (api.Range, api.Errno) {
	x, e := tunedOf(l, s, f)
	if e != api.OK {
		return api.Range{}, e
	}
	return x.share(), api.OK
}

// Inharmonicity returns the inharmonicity of a strand at a frequency (P2.2).
func Inharmonicity(l []api.Wire, s api.Strand, f api.Range) (api.Range, api.Errno) {
	x, e := tunedOf(l, s, f)
	if e != api.OK {
		return api.Range{}, e
	}
	tension := x.tension()
	if tension.Lo == 0 {
		return api.Range{}, api.ErrZero
	}
	thickness := quotient(exact(1000*x.Core*x.Core), exact(x.Length))
	bend := quotient(product(thickness, thickness), exact(1000))
	return quotient(product(exact(x.inner.Stiff), bend), product(exact(1000), tension)), api.OK
}

// Impedance returns the impedance of a strand at a frequency (P2.2).
func Impedance(l []api.Wire, s api.Strand, f api.Range) (api.Range, api.Errno) {
	x, e := tunedOf(l, s, f)
	if e != api.OK {
		return api.Range{}, e
	}
	speed := x.speed()
	if speed.Lo == 0 {
		return api.Range{}, api.ErrZero
	}
	return quotient(product(exact(1000), x.tension()), speed), api.OK
}

// tunedOf returns a strand at a frequency.
func tunedOf(l []api.Wire, s api.Strand, f api.Range) (tuned, api.Errno) {
	x, e := strungOf(l, s)
	if e != api.OK {
		return tuned{}, e
	}
	if e := frequencyError(f); e != api.OK {
		return tuned{}, e
	}
	x.frequency = f
	return x, api.OK
}

func frequencyError(f api.Range) api.Errno {
	if !whole.Inside(f, 1, maxFrequency) {
		return api.ErrRange
	}
	return api.OK
}

// speed is the chapter's x, half the speed of a wave along the strand.
func (x tuned) speed() api.Range {
	return quotient(product(x.frequency, exact(x.Length)), exact(1000000))
}

func (x tuned) tension() api.Range {
	speed := x.speed()
	squared := quotient(product(speed, speed), exact(10000))
	mass := quotient(exact(x.mass()), exact(10000))
	return quotient(product(mass, squared), exact(1000000))
}

func (x tuned) share() api.Range {
	bears := quotient(exact(x.bearing()), exact(1000000))
	return quotient(product(exact(1000), x.tension()), bears)
}

// ClassOf returns how many marks are at most the number that a range encloses (P2.2).
func ClassOf(marks []int, x api.Range) (int, api.Errno) {
	if e := marksError(marks); e != api.OK {
		return 0, e
	}
	if !whole.Inside(x, 0, api.MaxNumber) {
		return 0, api.ErrRange
	}
	marksUpTo := func(n int) int {
		return sort.Search(len(marks), func(i int) bool { return marks[i] > n })
	}
	class := marksUpTo(x.Lo)
	if marksUpTo(x.Hi) != class {
		return 0, api.ErrNone
	}
	return class, api.OK
}

func marksError(marks []int) api.Errno {
	if len(marks) > api.MaxMarks {
		return api.ErrLarge
	}
	return whole.AscentError(marks, 1, api.MaxNumber)
}
