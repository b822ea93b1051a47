package scale

import (
	"sort"

	"agraffe/api"
	"agraffe/whole"
)

const maxShare = 1000000

// CheckLimits returns the error of limits (P2.4).
func CheckLimits(m api.TensionLimits) api.Errno {
	for _, n := range [3]int{m.Least, m.Most, m.Jump} {
		if !whole.Between(n, 0, api.MaxNumber) {
			return api.ErrRange
		}
	}
	if !whole.Between(m.Share, 0, maxShare) {
		return api.ErrRange
	}
	if m.Least > m.Most {
		return api.ErrOrder
	}
	return api.OK
}

// limitedUnisons is for functions with a stringing and limits.
func limitedUnisons(s api.Stringing, m api.TensionLimits) ([]tuned, api.Errno) {
	strands, _, e := unisonsOf(s)
	if e != api.OK {
		return nil, e
	}
	return strands, CheckLimits(m)
}

// limitedUnison is for functions with a stringing, a unison and limits.
func limitedUnison(s api.Stringing, unison int, m api.TensionLimits) (tuned, api.Errno) {
	x, e := unisonOf(s, unison)
	if e != api.OK {
		return tuned{}, e
	}
	return x, CheckLimits(m)
}

// keeps leaves out the jump, which is one of two unisons.
func (x tuned) keeps(m api.TensionLimits) bool {
	return x.tension().Lo >= m.Least && x.keepsMost(m)
}

func (x tuned) keepsMost(m api.TensionLimits) bool {
	return x.tension().Hi <= m.Most && x.share().Hi <= m.Share
}

// jump is from one tension to another one, up or down.
func jump(a, b api.Range) int {
	return max(a.Hi-b.Lo, b.Hi-a.Lo)
}

// Keeps returns -1, or the first unison that breaks limits and ErrBreak (P2.4).
func Keeps(s api.Stringing, m api.TensionLimits) (int, api.Errno) {
	strands, e := limitedUnisons(s, m)
	if e != api.OK {
		return 0, e
	}
	for i, x := range strands {
		if !x.keeps(m) || i > 0 && jump(strands[i-1].tension(), x.tension()) > m.Jump {
			return i, api.ErrBreak
		}
	}
	return -1, api.OK
}

// LongestFor returns the greatest length with which a unison keeps the greatest tension and share (P2.4).
// A longer string never has less of either, so that the lengths that do not fit stand behind those that do.
func LongestFor(s api.Stringing, unison int, m api.TensionLimits) (int, api.Errno) {
	x, e := limitedUnison(s, unison, m)
	if e != api.OK {
		return 0, e
	}
	tooLong := func(more int) bool {
		y := x
		y.Length = minLength + more
		return !y.keepsMost(m)
	}
	fitting := sort.Search(maxLength-minLength+1, tooLong)
	if fitting == 0 {
		return 0, api.ErrNone
	}
	return minLength + fitting - 1, api.OK
}

// LeastGauge returns the least core with which a plain unison is right and keeps the least tension (P2.4).
// A thicker plain string never has less tension, nor does it bear less.
func LeastGauge(s api.Stringing, unison int, m api.TensionLimits) (int, api.Errno) {
	x, e := limitedUnison(s, unison, m)
	if e != api.OK {
		return 0, e
	}
	if x.Over != 0 {
		return 0, api.ErrKind
	}
	thickEnough := func(more int) bool {
		y, right := x.withCore(minCore + more)
		return right && y.tension().Lo >= m.Least
	}
	core := minCore + sort.Search(maxCore-minCore+1, thickEnough)
	if core > maxCore {
		return 0, api.ErrNone
	}
	return core, api.OK
}
