package upkeep

import (
	"slices"

	"agraffe/api"
	"agraffe/sets"
)

// signatures are those of all notes, which are sets of tests: MaxBeatTests keeps their numbers below 64.
// That of a note which is in no test is empty, and counts as none.
type signatures [noteCount]sets.Set

// signaturesOf is for functions with tests.
func signaturesOf(l []api.BeatTest) (signatures, api.Errno) {
	if e := CheckTests(l); e != api.OK {
		return signatures{}, e
	}
	var s signatures
	for n, b := range l {
		s[b.Low] |= sets.Single(n)
		s[b.High] |= sets.Single(n)
	}
	return s, api.OK
}

// has tells whether a number is a note of the tests.
func (s signatures) has(note int) bool {
	return noteError(note) == api.OK && s[note] != 0
}

func (s signatures) notes() []int {
	var l []int
	for note := range s {
		if s.has(note) {
			l = append(l, note)
		}
	}
	return l
}

// alike returns the first two notes with the same signature, and whether there are any.
func (s signatures) alike() ([2]int, bool) {
	for _, note := range s.notes() {
		above := note + 1
		if n := slices.Index(s[above:], s[note]); n >= 0 {
			return [2]int{note, above + n}, true
		}
	}
	return [2]int{}, false
}

// suffice tells whether some of the tests have all the notes, and single out every string.
func (s signatures) suffice(some sets.Set) bool {
	var left signatures
	for _, note := range s.notes() {
		left[note] = s[note] & some
		if !left.has(note) {
			return false
		}
	}
	_, found := left.alike()
	return !found
}

// Notes returns the notes of tests (P7.3).
func Notes(l []api.BeatTest) ([]int, api.Errno) {
	s, e := signaturesOf(l)
	if e != api.OK {
		return nil, e
	}
	return s.notes(), api.OK
}

// Signature returns the signature of a note (P7.3).
func Signature(l []api.BeatTest, note int) ([]int, api.Errno) {
	s, e := signaturesOf(l)
	if e != api.OK {
		return nil, e
	}
	if e := noteError(note); e != api.OK {
		return nil, e
	}
	if !s.has(note) {
		return nil, api.ErrMissing
	}
	return s[note].List(), api.OK
}

// SinglesOut tells whether tests single out every string, or returns the first two notes that they do not tell apart (P7.3).
func SinglesOut(l []api.BeatTest) (bool, [2]int, api.Errno) {
	s, e := signaturesOf(l)
	if e != api.OK {
		return false, [2]int{}, e
	}
	pair, found := s.alike()
	return !found, pair, api.OK
}

// Thinned returns the numbers of the tests that are left if each one is left out, from the last one on, that is not
// needed (P7.3).
func Thinned(l []api.BeatTest) ([]int, api.Errno) {
	s, e := signaturesOf(l)
	if e != api.OK {
		return nil, e
	}
	if _, found := s.alike(); found {
		return nil, api.ErrState
	}
	left := sets.Below(len(l))
	for n := range slices.Backward(l) {
		if without := left &^ sets.Single(n); s.suffice(without) {
			left = without
		}
	}
	return left.List(), api.OK
}
