package number

import (
	"slices"

	"agraffe/api"
	"agraffe/whole"
)

// CheckSystem returns the error of a system (P1.6).
func CheckSystem(n int, l []api.Bound) api.Errno {
	if n < 1 || n > api.MaxUnknowns {
		return api.ErrRange
	}
	if len(l) > api.MaxBounds {
		return api.ErrLarge
	}
	for _, b := range l {
		if b.From < 0 || b.From >= n || b.To < 0 || b.To >= n {
			return api.ErrMissing
		}
		if !whole.Within(b.Most, api.MaxPart) {
			return api.ErrRange
		}
	}
	return api.OK
}

// Solve returns the greatest solution with nothing above 0, or a circle (P1.6).
// All unknowns begin at 0 and are lowered as far as the bounds force them. No unknown has more than n-1 bounds
// behind it unless it is forced round a circle, so that a round n in which one is still lowered proves a circle.
func Solve(n int, l []api.Bound) ([]int, []int, api.Errno) {
	if e := CheckSystem(n, l); e != api.OK {
		return nil, nil, e
	}
	solution := make([]int, n)
	forcedBy := make([]int, n)
	last := 0
	for range n {
		lowered := false
		for i, b := range l {
			if most := solution[b.From] + b.Most; solution[b.To] > most {
				solution[b.To], forcedBy[b.To] = most, i
				last, lowered = b.To, true
			}
		}
		if !lowered {
			return solution, nil, api.OK
		}
	}
	return nil, circleBehind(n, l, forcedBy, last), api.ErrCycle
}

// circleBehind goes back along the bounds by which unknowns were lowered last.
// An unknown that was lowered in round n has n of them behind it, so that n steps lead into a circle.
func circleBehind(n int, l []api.Bound, forcedBy []int, unknown int) []int {
	for range n {
		unknown = l[forcedBy[unknown]].From
	}
	circle := []int{forcedBy[unknown]}
	for at := l[forcedBy[unknown]].From; at != unknown; at = l[forcedBy[at]].From {
		circle = append(circle, forcedBy[at])
	}
	slices.Reverse(circle)
	return circle
}

// CheckCircle returns the sum of a circle, which proves that a system has no solution (P1.6).
func CheckCircle(n int, l []api.Bound, circle []int) (int, api.Errno) {
	if e := CheckSystem(n, l); e != api.OK {
		return 0, e
	}
	if len(circle) < 1 || len(circle) > api.MaxUnknowns {
		return 0, api.ErrShape
	}
	for _, i := range circle {
		if i < 0 || i >= len(l) {
			return 0, api.ErrMissing
		}
	}
	sum := 0
	at := l[circle[len(circle)-1]].To
	for _, i := range circle {
		if l[i].From != at {
			return 0, api.ErrOpen
		}
		at = l[i].To
		sum += l[i].Most
	}
	if sum >= 0 {
		return 0, api.ErrProof
	}
	return sum, api.OK
}
