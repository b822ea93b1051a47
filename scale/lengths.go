package scale

import (
	"agraffe/api"
	"agraffe/number"
	"agraffe/whole"
)

// LengthSystem returns the length system of ranges of lengths and a drop (P2.6).
func LengthSystem(bounds []api.Range, drop api.Range) ([]api.Bound, api.Errno) {
	return lengthSystem(bounds, drop, 0)
}

// lengthSystem returns the length system of lengths that are all less by so much.
// Only the bounds to and from the last unknown tell the difference, and round a circle it cancels.
func lengthSystem(bounds []api.Range, drop api.Range, less int) ([]api.Bound, api.Errno) {
	if e := lengthsError(bounds, drop); e != api.OK {
		return nil, e
	}
	var l []api.Bound
	zero := len(bounds)
	for i, r := range bounds {
		l = append(l, api.Bound{From: zero, To: i, Most: r.Hi - less}, api.Bound{From: i, To: zero, Most: less - r.Lo})
	}
	for i := 0; i+1 < len(bounds); i++ {
		l = append(l, api.Bound{From: i, To: i + 1, Most: -drop.Lo}, api.Bound{From: i + 1, To: i, Most: drop.Hi})
	}
	return l, api.OK
}

func lengthsError(bounds []api.Range, drop api.Range) api.Errno {
	if len(bounds) > api.MaxSmooth {
		return api.ErrLarge
	}
	for _, r := range bounds {
		if !whole.Inside(r, minLength, maxLength) {
			return api.ErrRange
		}
	}
	if !whole.Inside(drop, -maxLength, maxLength) {
		return api.ErrRange
	}
	return api.OK
}

// SmoothLengths returns the greatest lengths within ranges that drop as they should, or a circle (P2.6).
// number.Solve finds the greatest numbers with none above 0. Less by maxLength, no length is above 0, and the last
// unknown stays 0 in the solution, as no length forces it below.
func SmoothLengths(bounds []api.Range, drop api.Range) ([]int, []int, api.Errno) {
	l, e := lengthSystem(bounds, drop, maxLength)
	if e != api.OK {
		return nil, nil, e
	}
	solution, circle, e := number.Solve(len(bounds)+1, l)
	if e != api.OK {
		return nil, circle, e
	}
	lengths := solution[:len(bounds)]
	for i := range lengths {
		lengths[i] += maxLength
	}
	return lengths, nil, api.OK
}
