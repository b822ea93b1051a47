package plate

import (
	"slices"

	"agraffe/api"
)

const maxForce = 1000000000 // components of forces, in size

// CheckForces returns the error of forces (P3.2).
func CheckForces(l []api.Pulled) api.Errno {
	if len(l) > api.MaxForces {
		return api.ErrLarge
	}
	for _, f := range l {
		if e := placeError(f.At); e != api.OK {
			return e
		}
		if vector(f.Force).hasOne(beyond(maxForce)) {
			return api.ErrRange
		}
	}
	return api.OK
}

// sumOf takes forces that are right; it keeps their sum below 2^63, as momentAbout does their moment.
func sumOf(l []api.Pulled) vector {
	var sum vector
	for _, f := range l {
		sum = sum.plus(f.Force)
	}
	return sum
}

func momentAbout(at vector, l []api.Pulled) vector {
	var moment vector
	for _, f := range l {
		arm := vector(f.At).from(at)
		moment = moment.plus(arm.across(f.Force))
	}
	return moment
}

// Sum returns the sum of forces (P3.2).
func Sum(l []api.Pulled) ([3]int, api.Errno) {
	if e := CheckForces(l); e != api.OK {
		return [3]int{}, e
	}
	return sumOf(l), api.OK
}

// Moment returns the moment of forces about a place (P3.2).
func Moment(l []api.Pulled, at [3]int) ([3]int, api.Errno) {
	if e := forcesAtError(l, at); e != api.OK {
		return [3]int{}, e
	}
	return momentAbout(at, l), api.OK
}

// forcesAtError is for functions with forces and a place.
func forcesAtError(l []api.Pulled, at vector) api.Errno {
	if e := CheckForces(l); e != api.OK {
		return e
	}
	return placeError(at)
}

// Balanced tells whether the sum of forces and their moment about the origin are 0 (P3.2).
func Balanced(l []api.Pulled) (bool, api.Errno) {
	if e := CheckForces(l); e != api.OK {
		return false, e
	}
	none := vector{}
	return sumOf(l) == none && momentAbout(none, l) == none, api.OK
}

// Balance returns the force at a place that makes the sum 0, and the moment that is then still needed (P3.2).
func Balance(l []api.Pulled, at [3]int) (api.Pulled, [3]int, api.Errno) {
	if e := forcesAtError(l, at); e != api.OK {
		return api.Pulled{}, [3]int{}, e
	}
	return api.Pulled{At: at, Force: sumOf(l).opposite()}, momentAbout(at, l).opposite(), api.OK
}

// Move returns forces with all places moved (P3.2).
func Move(l []api.Pulled, by [3]int) ([]api.Pulled, api.Errno) {
	if e := CheckForces(l); e != api.OK {
		return nil, e
	}
	moved := slices.Clone(l)
	for i, f := range l {
		place, e := movedPlace(f.At, by)
		if e != api.OK {
			return nil, e
		}
		moved[i].At = place
	}
	return moved, api.OK
}

// movedPlace takes a place that is right. It does not add what is too far for any such place: the sum may be no int.
func movedPlace(place, by vector) (vector, api.Errno) {
	if by.hasOne(beyond(2 * maxPlace)) {
		return vector{}, api.ErrRange
	}
	moved := place.plus(by)
	return moved, placeError(moved)
}
