// Package sets is no chapter: it holds what the layers have in common for sets, which are sets of small numbers, and
// lists that ascend.
package sets

import (
	"cmp"
	"iter"
	"math/bits"
	"slices"

	"agraffe/api"
)

// Set is a set of numbers from 0 to 63, a bit for each one.
type Set uint64

// Single returns the set of one number.
func Single(n int) Set {
	return 1 << n
}

// Of returns the set of the numbers of a list.
func Of(l []int) Set {
	var s Set
	for _, n := range l {
		s |= Single(n)
	}
	return s
}

// Below returns the set of the numbers below another one.
func Below(n int) Set {
	return Single(n) - 1
}

// Has tells whether a number is in the set.
func (s Set) Has(n int) bool {
	return s&Single(n) != 0
}

// Size returns how many numbers are in the set.
func (s Set) Size() int {
	return bits.OnesCount64(uint64(s))
}

// All yields the numbers of the set, ascending.
func (s Set) All() iter.Seq[int] {
	return func(yield func(int) bool) {
		for left := s; left != 0; left &= left - 1 {
			if !yield(bits.TrailingZeros64(uint64(left))) {
				return
			}
		}
	}
}

// List returns the numbers of the set, ascending.
func (s Set) List() []int {
	return slices.Collect(s.All())
}

// Ascends tells whether each element of a list is greater than the one before.
func Ascends[T cmp.Ordered](l []T) bool {
	for i := 1; i < len(l); i++ {
		if l[i] <= l[i-1] {
			return false
		}
	}
	return true
}

// ListError is for an ascending list of known elements, all of which are looked at before their order.
func ListError[T cmp.Ordered](l []T, known func(T) bool) api.Errno {
	for _, x := range l {
		if !known(x) {
			return api.ErrMissing
		}
	}
	if !Ascends(l) {
		return api.ErrOrder
	}
	return api.OK
}
