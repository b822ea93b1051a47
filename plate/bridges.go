package plate

import (
	"sort"

	"agraffe/api"
	"agraffe/whole"
)

const (
	maxHeight  = 10000 // heights of a string, in size
	maxReach   = 300000
	maxTension = 10000000 // tensions of strings over bridges; also the greatest down-bearing that is asked for
)

// CheckBearing returns the error of a bearing (P3.5).
func CheckBearing(b api.Bearing) api.Errno {
	for _, height := range [3]int{b.Front, b.Bridge, b.Back} {
		if !whole.Within(height, maxHeight) {
			return api.ErrRange
		}
	}
	if !whole.Between(b.Ahead, 1, maxReach) || !whole.Between(b.Behind, 1, maxReach) {
		return api.ErrRange
	}
	return api.OK
}

// steepness returns what a tension is multiplied by for the down-bearing.
// Its parts may be so great that only whole numbers up to maxTension may be multiplied by them.
func steepness(b api.Bearing) api.Frac {
	return whole.Reduced((b.Bridge-b.Front)*b.Behind+(b.Bridge-b.Back)*b.Ahead, b.Ahead*b.Behind)
}

// DownBearing returns the down-bearing of a string (P3.5).
func DownBearing(b api.Bearing, tension int) (api.Frac, api.Errno) {
	if e := CheckBearing(b); e != api.OK {
		return api.Frac{}, e
	}
	if !whole.Between(tension, 0, maxTension) {
		return api.Frac{}, api.ErrRange
	}
	by := steepness(b)
	return whole.Reduced(tension*by.Num, by.Den), api.OK
}

// BridgeLoad returns the sum of the down-bearings of strings (P3.5).
func BridgeLoad(l []api.Bearing, tensions []api.Range) (api.Range, api.Errno) {
	if len(l) > api.MaxForces {
		return api.Range{}, api.ErrLarge
	}
	if len(tensions) != len(l) {
		return api.Range{}, api.ErrShape
	}
	total := api.Range{}
	for i, b := range l {
		load, e := loadOf(b, tensions[i])
		if e != api.OK {
			return api.Range{}, e
		}
		total.Lo += load.Lo
		total.Hi += load.Hi
	}
	return total, api.OK
}

func loadOf(b api.Bearing, tension api.Range) (api.Range, api.Errno) {
	if e := CheckBearing(b); e != api.OK {
		return api.Range{}, e
	}
	if !whole.Inside(tension, 0, maxTension) {
		return api.Range{}, api.ErrRange
	}
	by := steepness(b)
	// A string that is pressed up has the lesser down-bearing with the greater tension.
	low, high := tension.Lo*by.Num, tension.Hi*by.Num
	if by.Num < 0 {
		low, high = high, low
	}
	return api.Range{Lo: whole.Down(low, by.Den), Hi: whole.Up(high, by.Den)}, api.OK
}

// LeastHeight returns the least height of the bridge with which the down-bearing is at least want (P3.5).
// A higher bridge never has less of it.
func LeastHeight(b api.Bearing, tension, want int) (int, api.Errno) {
	if e := CheckBearing(b); e != api.OK {
		return 0, e
	}
	if !whole.Between(tension, 0, maxTension) || !whole.Within(want, maxTension) {
		return 0, api.ErrRange
	}
	highEnough := func(more int) bool {
		x := b
		x.Bridge = more - maxHeight
		by := steepness(x)
		return tension*by.Num >= want*by.Den
	}
	height := sort.Search(2*maxHeight+1, highEnough) - maxHeight
	if height > maxHeight {
		return 0, api.ErrNone
	}
	return height, api.OK
}
