// Package number is chapter 1: fractions, pitches, ranges, systems of differences, lines. See shared/doc/01-number.md.
//
// All of it is exact: what does not fit an int is kept in a natural (natural.go).
package number

import "agraffe/api"

const (
	maxTimes  = 1000000000          // by what fractions and pitches are multiplied
	maxPower  = 1000000000000000000 // of what roots are taken
	maxDegree = 12                  // degrees of roots
)

// firstError is for arguments, whose errors count in their order.
func firstError(l ...api.Errno) api.Errno {
	for _, e := range l {
		if e != api.OK {
			return e
		}
	}
	return api.OK
}

// greatest returns the greatest number from low to high for which holds answers true.
// It takes for granted that low is such a number, and that the numbers behind one that is none are none.
func greatest(low, high int, holds func(int) bool) int {
	for low < high {
		middle := low + (high-low+1)/2
		if holds(middle) {
			low = middle
		} else {
			high = middle - 1
		}
	}
	return low
}

// Root returns the greatest whole number whose k-th power is at most n (P1.2).
func Root(n, k int) (int, api.Errno) {
	if n < 0 || n > maxPower || k < 1 || k > maxDegree {
		return 0, api.ErrRange
	}
	// Each power is divided into n before it is taken: the next one may be beyond an int.
	powerFits := func(root int) bool {
		power := 1
		for range k {
			if power > n/root {
				return false
			}
			power *= root
		}
		return true
	}
	return greatest(0, n, powerFits), api.OK
}
