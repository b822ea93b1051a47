package restore

import (
	"cmp"
	"slices"

	"agraffe/api"
	"agraffe/whole"
)

const (
	maxWeights = 60
	maxWeight  = 1000000
)

// Split divides an amount by weights (P8.8).
func Split(total int, weights []int) ([]int, api.Errno) {
	if e := splitError(total, weights); e != api.OK {
		return nil, e
	}
	sum := 0
	for _, w := range weights {
		sum += w
	}
	left, order := total, make([]int, len(weights))
	shares, rests := make([]int, len(weights)), make([]int, len(weights))
	for n, w := range weights {
		order[n], shares[n], rests[n] = n, total*w/sum, total*w%sum
		left -= shares[n]
	}
	slices.SortStableFunc(order, func(a, b int) int { return cmp.Compare(rests[b], rests[a]) })
	for _, n := range order[:left] {
		shares[n]++
	}
	return shares, api.OK
}

func splitError(total int, weights []int) api.Errno {
	switch {
	case !whole.Between(total, 0, api.MaxCents):
		return api.ErrRange
	case len(weights) == 0:
		return api.ErrShape
	case len(weights) > maxWeights:
		return api.ErrLarge
	}
	for _, w := range weights {
		if !whole.Between(w, 0, maxWeight) {
			return api.ErrRange
		}
	}
	if slices.Max(weights) == 0 {
		return api.ErrZero
	}
	return api.OK
}
