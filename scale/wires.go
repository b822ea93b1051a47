package scale

import (
	"agraffe/api"
	"agraffe/whole"
	"agraffe/words"
)

const (
	maxMass      = 200000
	maxStrength  = 1000000
	maxStiff     = 100000000
	leastBearing = 1000000 // Strength Core^2: with less, the share of it would be divided by 0
)

// tuned is a right strand with its wires, at a frequency.
type tuned struct {
	api.Strand
	inner, outer api.Wire
	frequency    api.Range
}

// CheckWires returns the error of a list of wires (P2.1).
func CheckWires(l []api.Wire) api.Errno {
	if len(l) > api.MaxWires {
		return api.ErrLarge
	}
	earlier := map[string]bool{}
	for _, w := range l {
		if !words.IsName(w.Name) {
			return api.ErrName
		}
		if earlier[w.Name] {
			return api.ErrExists
		}
		if !whole.Between(w.Mass, 1, maxMass) || !whole.Between(w.Strength, 1, maxStrength) || !whole.Between(w.Stiff, 0, maxStiff) {
			return api.ErrRange
		}
		earlier[w.Name] = true
	}
	return api.OK
}

// CheckStrand returns the error of a strand of some wires (P2.1).
func CheckStrand(l []api.Wire, s api.Strand) api.Errno {
	_, e := strungOf(l, s)
	return e
}

// MassOf returns the mass number of a strand (P2.1).
func MassOf(l []api.Wire, s api.Strand) (int, api.Errno) {
	x, e := strungOf(l, s)
	if e != api.OK {
		return 0, e
	}
	return x.mass(), api.OK
}

// strungOf returns a strand with its wires, at no frequency yet.
func strungOf(l []api.Wire, s api.Strand) (tuned, api.Errno) {
	if e := CheckWires(l); e != api.OK {
		return tuned{}, e
	}
	return strung(wiresByName(l), s)
}

func wiresByName(l []api.Wire) map[string]api.Wire {
	found := make(map[string]api.Wire, len(l))
	for _, w := range l {
		found[w.Name] = w
	}
	return found
}

// strung takes the wires as right ones.
func strung(wires map[string]api.Wire, s api.Strand) (tuned, api.Errno) {
	if e := sizesError(s); e != api.OK {
		return tuned{}, e
	}
	inner, innerFound := wires[s.Wire]
	outer, outerFound := wires[s.Wrap]
	if !innerFound || s.Over != 0 && !outerFound {
		return tuned{}, api.ErrMissing
	}
	x := tuned{Strand: s, inner: inner, outer: outer}
	if x.bearing() < leastBearing {
		return tuned{}, api.ErrZero
	}
	return x, api.OK
}

func sizesError(s api.Strand) api.Errno {
	if !whole.Between(s.Length, minLength, maxLength) || !whole.Between(s.Core, minCore, maxCore) || !whole.Between(s.Over, 0, maxOver) {
		return api.ErrRange
	}
	wound := s.Over != 0
	if wound && s.Over <= s.Core || wound != (s.Wrap != "") {
		return api.ErrForm
	}
	return api.OK
}

// withCore returns the strand with another core, and whether it is right then.
func (x tuned) withCore(core int) (tuned, bool) {
	x.Core = core
	return x, sizesError(x.Strand) == api.OK && x.bearing() >= leastBearing
}

// bearing is a million times what the strand bears.
func (x tuned) bearing() int {
	return x.inner.Strength * x.Core * x.Core
}

// mass needs no case for plain strands: the wire that they do not have has no mass.
func (x tuned) mass() int {
	return x.inner.Mass*x.Core*x.Core + x.outer.Mass*(x.Over*x.Over-x.Core*x.Core)
}
