package restore

import (
	"slices"

	"agraffe/api"
	"agraffe/sets"
	"agraffe/whole"
)

const (
	maxSize = 1000000
	noPart  = -1 // stands in matches for the part of a place that has none
	noPlace = -1
)

func placesError(l []api.WantedPart) api.Errno {
	nameOf := func(w api.WantedPart) string { return w.Name }
	return listError(l, api.MaxWanted, nameOf, func(w api.WantedPart) api.Errno {
		if !whole.Between(len(w.Ranges), 1, api.MaxSizes) {
			return api.ErrShape
		}
		wrong := func(r api.Range) bool { return !whole.Inside(r, 0, maxSize) }
		if slices.ContainsFunc(w.Ranges, wrong) {
			return api.ErrRange
		}
		return api.OK
	})
}

func offersError(l []api.OfferedPart) api.Errno {
	nameOf := func(o api.OfferedPart) string { return o.Name }
	return listError(l, api.MaxWanted, nameOf, func(o api.OfferedPart) api.Errno {
		if !whole.Between(len(o.Sizes), 1, api.MaxSizes) {
			return api.ErrShape
		}
		wrong := func(size int) bool { return !whole.Between(size, 0, maxSize) }
		if slices.ContainsFunc(o.Sizes, wrong) {
			return api.ErrRange
		}
		return api.OK
	})
}

// marketError is for places, and parts that are offered for them.
func marketError(w []api.WantedPart, o []api.OfferedPart) api.Errno {
	if e := placesError(w); e != api.OK {
		return e
	}
	return offersError(o)
}

func fits(w api.WantedPart, o api.OfferedPart) bool {
	return slices.EqualFunc(w.Ranges, o.Sizes, func(r api.Range, size int) bool {
		return whole.Between(size, r.Lo, r.Hi)
	})
}

// fitting returns of each place the parts that fit it; MaxWanted keeps their numbers below 64.
func fitting(w []api.WantedPart, o []api.OfferedPart) []sets.Set {
	fit := make([]sets.Set, len(w))
	for place := range w {
		for part := range o {
			if fits(w[place], o[part]) {
				fit[place] |= sets.Single(part)
			}
		}
	}
	return fit
}

// Fits tells whether a part fits a place (P8.6).
func Fits(w api.WantedPart, o api.OfferedPart) (bool, api.Errno) {
	if e := marketError([]api.WantedPart{w}, []api.OfferedPart{o}); e != api.OK {
		return false, e
	}
	return fits(w, o), api.OK
}

// matching is a right match while it grows, seen from both sides.
type matching struct {
	fit     []sets.Set // of each place the parts that fit it
	partAt  []int      // of each place its part, or noPart
	placeOf []int      // of each part its place, or noPlace
}

// supply finds a part for a place, if need be by moving parts to other places, and tells whether there is one. It adds
// the parts that it looks at to those that were seen, and passes over these.
func (m matching) supply(place int, seen *sets.Set) bool {
	for part := range m.fit[place].All() {
		if seen.Has(part) {
			continue
		}
		*seen |= sets.Single(part)
		if m.placeOf[part] == noPlace || m.supply(m.placeOf[part], seen) {
			m.partAt[place], m.placeOf[part] = part, place
			return true
		}
	}
	return false
}

// cover returns a cover with as many places and parts as a greatest match has parts: of each pair of the match it takes
// the part if the search for one more part comes there, and otherwise the place. In a greatest match this search finds
// none, so that it moves nothing.
func (m matching) cover() [2][]int {
	var seen sets.Set
	for place, part := range m.partAt {
		if part == noPart {
			m.supply(place, &seen)
		}
	}
	var places []int
	for place, part := range m.partAt {
		if part != noPart && !seen.Has(part) {
			places = append(places, place)
		}
	}
	return [2][]int{places, seen.List()}
}

// Match returns a right match with the greatest number of parts, and a cover that proves it (P8.6).
func Match(w []api.WantedPart, o []api.OfferedPart) ([]int, [2][]int, api.Errno) {
	if e := marketError(w, o); e != api.OK {
		return nil, [2][]int{}, e
	}
	m := matching{
		fit:     fitting(w, o),
		partAt:  slices.Repeat([]int{noPart}, len(w)),
		placeOf: slices.Repeat([]int{noPlace}, len(o)),
	}
	for place := range w {
		var seen sets.Set
		m.supply(place, &seen)
	}
	return m.partAt, m.cover(), api.OK
}

// CheckMatch returns how many parts a right match has (P8.6).
func CheckMatch(w []api.WantedPart, o []api.OfferedPart, m []int) (int, api.Errno) {
	if e := marketError(w, o); e != api.OK {
		return 0, e
	}
	if len(m) != len(w) {
		return 0, api.ErrShape
	}
	count := 0
	for place, part := range m {
		if part == noPart {
			continue
		}
		switch {
		case !whole.Between(part, 0, len(o)-1):
			return 0, api.ErrMissing
		case !fits(w[place], o[part]):
			return 0, api.ErrKind
		case slices.Contains(m[:place], part):
			return 0, api.ErrBusy
		}
		count++
	}
	return count, api.OK
}

// CheckCover returns how many places and parts a cover has (P8.6).
func CheckCover(w []api.WantedPart, o []api.OfferedPart, cover [2][]int) (int, api.Errno) {
	if e := marketError(w, o); e != api.OK {
		return 0, e
	}
	places, parts := cover[0], cover[1]
	noneOf := func(count int) func(int) bool {
		return func(n int) bool { return !whole.Between(n, 0, count-1) }
	}
	if slices.ContainsFunc(places, noneOf(len(w))) || slices.ContainsFunc(parts, noneOf(len(o))) {
		return 0, api.ErrMissing
	}
	if !sets.Ascends(places) || !sets.Ascends(parts) {
		return 0, api.ErrOrder
	}
	placesIn, partsIn := sets.Of(places), sets.Of(parts)
	for place, fit := range fitting(w, o) {
		if !placesIn.Has(place) && fit&^partsIn != 0 {
			return 0, api.ErrGap
		}
	}
	return len(places) + len(parts), api.OK
}
