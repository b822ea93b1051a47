package restore

import (
	"slices"

	"agraffe/api"
	"agraffe/whole"
)

const (
	minGauge  = 100
	maxGauge  = 3000
	maxCoil   = 1000000000
	maxPiece  = 300000
	maxPieces = 100 // pieces of a kind
)

// wireError is for coils, and pieces to be cut from them.
func wireError(c []api.Coil, l []api.WirePiece) api.Errno {
	if e := coilsError(c); e != api.OK {
		return e
	}
	return piecesError(l)
}

func coilsError(l []api.Coil) api.Errno {
	nameOf := func(c api.Coil) string { return c.Name }
	return listError(l, api.MaxCoils, nameOf, func(c api.Coil) api.Errno {
		if !whole.Between(c.Gauge, minGauge, maxGauge) || !whole.Between(c.Length, 0, maxCoil) {
			return api.ErrRange
		}
		return api.OK
	})
}

func piecesError(l []api.WirePiece) api.Errno {
	if len(l) > api.MaxPieces {
		return api.ErrLarge
	}
	for _, p := range l {
		if !whole.Between(p.Gauge, minGauge, maxGauge) || !whole.Between(p.Length, 1, maxPiece) || !whole.Between(p.Count, 1, maxPieces) {
			return api.ErrRange
		}
	}
	return api.OK
}

// CutFirst cuts piece by piece from the first coil that has enough of its gauge left (P8.7).
func CutFirst(c []api.Coil, l []api.WirePiece) ([][]int, api.Errno) {
	if e := wireError(c, l); e != api.OK {
		return nil, e
	}
	left := slices.Clone(c)
	cuts := make([][]int, len(l))
	for kind, p := range l {
		enough := func(x api.Coil) bool { return x.Gauge == p.Gauge && x.Length >= p.Length }
		for range p.Count {
			coil := slices.IndexFunc(left, enough)
			if coil < 0 {
				return nil, api.ErrStock
			}
			left[coil].Length -= p.Length
			cuts[kind] = append(cuts[kind], coil)
		}
	}
	return cuts, api.OK
}

// CheckCuts returns what is left of each coil behind right cuts (P8.7).
func CheckCuts(c []api.Coil, l []api.WirePiece, cuts [][]int) ([]int, api.Errno) {
	if e := wireError(c, l); e != api.OK {
		return nil, e
	}
	asMany := func(p api.WirePiece, coils []int) bool { return len(coils) == p.Count }
	if !slices.EqualFunc(l, cuts, asMany) {
		return nil, api.ErrShape
	}
	left := slices.Clone(c)
	for kind, p := range l {
		for _, coil := range cuts[kind] {
			if e := cutError(left, p, coil); e != api.OK {
				return nil, e
			}
			left[coil].Length -= p.Length
		}
	}
	lengths := make([]int, len(left))
	for n, x := range left {
		lengths[n] = x.Length
	}
	return lengths, api.OK
}

func cutError(left []api.Coil, p api.WirePiece, coil int) api.Errno {
	switch {
	case !whole.Between(coil, 0, len(left)-1):
		return api.ErrMissing
	case left[coil].Gauge != p.Gauge:
		return api.ErrKind
	case left[coil].Length < p.Length:
		return api.ErrStock
	}
	return api.OK
}
