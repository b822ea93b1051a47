package upkeep

import (
	"iter"
	"slices"

	"agraffe/api"
	"agraffe/sets"
	"agraffe/whole"
)

// outcome is which of the tests with these signatures failed.
type outcome struct {
	signatures
	failed sets.Set
}

// outcomeOf is for functions with tests and those of them that failed.
func outcomeOf(l []api.BeatTest, failed []int) (outcome, api.Errno) {
	s, e := signaturesOf(l)
	if e != api.OK {
		return outcome{}, e
	}
	isTest := func(n int) bool { return whole.Between(n, 0, len(l)-1) }
	if e := sets.ListError(failed, isTest); e != api.OK {
		return outcome{}, e
	}
	return outcome{signatures: s, failed: sets.Of(failed)}, api.OK
}

// explanationError is for a set of notes of the tests.
func (x outcome) explanationError(set []int) api.Errno {
	var some, odd sets.Set // tests with at least one of their notes in the set, and with just one
	for _, note := range set {
		some |= x.signatures[note]
		odd ^= x.signatures[note]
	}
	switch {
	case x.failed&^some != 0:
		return api.ErrGap
	case odd&^x.failed != 0:
		return api.ErrClash
	}
	return api.OK
}

// explanations returns those with so many notes, lexicographically.
func (x outcome) explanations(size int) [][]int {
	var found [][]int
	for set := range subsets(x.notes(), size) {
		if x.explanationError(set) == api.OK {
			found = append(found, slices.Clone(set))
		}
	}
	return found
}

// subsets yields all sets of so many elements of an ascending list, lexicographically. The sets share their memory:
// who keeps one copies it.
func subsets(l []int, size int) iter.Seq[[]int] {
	return func(yield func([]int) bool) {
		extend(make([]int, 0, size), l, size, yield)
	}
}

// extend yields the sets that begin with those chosen and go on in the rest, and tells whether to go on.
func extend(chosen, rest []int, size int, yield func([]int) bool) bool {
	if len(chosen) == size {
		return yield(chosen)
	}
	for i, x := range rest {
		if !extend(append(chosen, x), rest[i+1:], size, yield) {
			return false
		}
	}
	return true
}

// Explains accepts an explanation (P7.4).
func Explains(l []api.BeatTest, failed, set []int) api.Errno {
	x, e := outcomeOf(l, failed)
	if e != api.OK {
		return e
	}
	if e := sets.ListError(set, x.has); e != api.OK {
		return e
	}
	return x.explanationError(set)
}

// Least returns all smallest explanations (P7.4).
// All notes together explain whatever failed, so that ErrNone, which the chapter names, never comes.
func Least(l []api.BeatTest, failed []int) ([][]int, api.Errno) {
	x, e := outcomeOf(l, failed)
	if e != api.OK {
		return nil, e
	}
	notes := len(x.notes())
	if notes > api.MaxFewNotes {
		return nil, api.ErrLarge
	}
	for size := range notes + 1 {
		if found := x.explanations(size); len(found) > 0 {
			return found, api.OK
		}
	}
	return nil, api.ErrNone
}

// Suspects returns the notes that explain alone what failed (P7.4).
func Suspects(l []api.BeatTest, failed []int) ([]int, api.Errno) {
	x, e := outcomeOf(l, failed)
	if e != api.OK {
		return nil, e
	}
	return slices.Concat(x.explanations(1)...), api.OK
}
