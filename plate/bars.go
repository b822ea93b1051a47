package plate

import (
	"sort"

	"agraffe/api"
	"agraffe/whole"
)

const minBars = 2

// CheckBars returns the error of bars (P3.3).
func CheckBars(at []int) api.Errno {
	if !whole.Between(len(at), minBars, api.MaxBars) {
		return api.ErrShape
	}
	return whole.AscentError(at, -maxAlong, maxAlong)
}

// Distribute returns the load of each bar (P3.3).
// Each stretch between two bars is a girder on these; a bar bears what both of its stretches lay on it.
func Distribute(at []int, l [][2]int) ([]api.Frac, api.Errno) {
	if e := CheckBars(at); e != api.OK {
		return nil, e
	}
	if e := loadsError(l, at[0], at[len(at)-1]); e != api.OK {
		return nil, e
	}
	bars := make([]api.Frac, len(at))
	behind := api.Frac{Den: 1}
	for i, stretch := range stretchesOf(at, l) {
		atA, atB := stretch.reactions()
		bars[i] = added(behind, stretch.over(atA))
		behind = stretch.over(atB)
	}
	bars[len(at)-1] = behind
	return bars, api.OK
}

// stretchesOf lays each load on one stretch: at a bar between two of them, on that which ends there.
func stretchesOf(at []int, l [][2]int) []laden {
	stretches := make([]laden, len(at)-1)
	for i := range stretches {
		stretches[i].Girder = api.Girder{A: at[i], B: at[i+1]}
	}
	for _, load := range l {
		i := sort.SearchInts(at[1:], load[0])
		stretches[i].loads = append(stretches[i].loads, load)
	}
	return stretches
}

// added does not hold the sum against the limits of number.Add: the loads of a bar may be greater.
func added(a, b api.Frac) api.Frac {
	return whole.Reduced(a.Num*b.Den+b.Num*a.Den, a.Den*b.Den)
}
