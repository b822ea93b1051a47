package scale

import (
	"agraffe/api"
	"agraffe/number"
	"agraffe/whole"
)

const (
	minFork  = 1000
	maxCount = 4
)

// CheckStringing returns the error of a stringing, and the unison that has it (P2.3).
func CheckStringing(s api.Stringing) (int, api.Errno) {
	_, unison, e := unisonsOf(s)
	return unison, e
}

// unisonsOf returns the strands of a stringing, tuned, one for each unison; or the first wrong unison and its error.
func unisonsOf(s api.Stringing) ([]tuned, int, api.Errno) {
	if !whole.Between(s.Fork, minFork, maxFork) {
		return nil, 0, api.ErrRange
	}
	if e := CheckWires(s.Wires); e != api.OK {
		return nil, 0, e
	}
	if len(s.Unisons) > api.MaxUnisons {
		return nil, 0, api.ErrLarge
	}
	wires := wiresByName(s.Wires)
	strands := make([]tuned, len(s.Unisons))
	for i, u := range s.Unisons {
		x, e := tunedUnison(s.Fork, wires, u)
		if e != api.OK {
			return nil, i, e
		}
		if i > 0 && !isAbove(u.Pitch, s.Unisons[i-1].Pitch) {
			return nil, i, api.ErrOrder
		}
		strands[i] = x
	}
	return strands, 0, api.OK
}

func tunedUnison(fork int, wires map[string]api.Wire, u api.Unison) (tuned, api.Errno) {
	if e := number.CheckPitch(u.Pitch); e != api.OK {
		return tuned{}, e
	}
	if !whole.Between(u.Count, 1, maxCount) {
		return tuned{}, api.ErrRange
	}
	x, e := strung(wires, u.Strand)
	if e != api.OK {
		return tuned{}, e
	}
	if x.frequency, e = number.Enclose(u.Pitch, fork); e != api.OK {
		return tuned{}, e
	}
	return x, frequencyError(x.frequency)
}

// isAbove takes both pitches as right ones.
func isAbove(p, q api.Pitch) bool {
	order, _ := number.Order(p, q)
	return order > 0
}

// unisonOf returns the strand of one unison.
func unisonOf(s api.Stringing, unison int) (tuned, api.Errno) {
	strands, _, e := unisonsOf(s)
	if e != api.OK {
		return tuned{}, e
	}
	if unison < 0 || unison >= len(strands) {
		return tuned{}, api.ErrMissing
	}
	return strands[unison], api.OK
}

// Frequency returns the frequency of a unison (P2.3).
func Frequency(s api.Stringing, unison int) (api.Range, api.Errno) {
	x, e := unisonOf(s, unison)
	if e != api.OK {
		return api.Range{}, e
	}
	return x.frequency, api.OK
}

// Tensions returns the tension of a strand of each unison (P2.3).
func Tensions(s api.Stringing) ([]api.Range, api.Errno) {
	strands, _, e := unisonsOf(s)
	if e != api.OK {
		return nil, e
	}
	tensions := make([]api.Range, len(strands))
	for i, x := range strands {
		tensions[i] = x.tension()
	}
	return tensions, api.OK
}

// Total returns the tension of all strands together (P2.3).
func Total(s api.Stringing) (api.Range, api.Errno) {
	tensions, e := Tensions(s)
	if e != api.OK {
		return api.Range{}, e
	}
	total := api.Range{}
	for i, t := range tensions {
		total.Lo += s.Unisons[i].Count * t.Lo
		total.Hi += s.Unisons[i].Count * t.Hi
	}
	return total, api.OK
}
