package number

import (
	"agraffe/api"
	"agraffe/whole"
)

const (
	minDots   = 3
	maxPlace  = 10000 // coordinates of dots, in size
	maxCommon = 40000 // what the denominators of a line have in common
)

func checkDots(l []api.Dot) api.Errno {
	if len(l) < minDots || len(l) > api.MaxDots {
		return api.ErrShape
	}
	for i, d := range l {
		if !whole.Within(d.X, maxPlace) || !whole.Within(d.Y, maxPlace) {
			return api.ErrRange
		}
		if i > 0 && d.X <= l[i-1].X {
			return api.ErrOrder
		}
	}
	return api.OK
}

// Line returns the best line (P1.7).
// The best line at all dots is the best one at some three of them: those whose best line has the greatest error.
func Line(l []api.Dot) (api.Trend, api.Errno) {
	if e := checkDots(l); e != api.OK {
		return api.Trend{}, e
	}
	best := [3]int{0, 1, 2}
	for first := range l {
		for middle := first + 1; middle < len(l); middle++ {
			for last := middle + 1; last < len(l); last++ {
				three := [3]int{first, middle, last}
				if worse(l, three, best) {
					best = three
				}
			}
		}
	}
	return lineOfThree(l, best), api.OK
}

// bend returns the height of the middle dot above the line through the two others, and the distance of these by which it is multiplied.
func bend(l []api.Dot, three [3]int) (int, int) {
	a, b, c := l[three[0]], l[three[1]], l[three[2]]
	width := c.X - a.X
	return (b.Y-a.Y)*width - (c.Y-a.Y)*(b.X-a.X), width
}

func worse(l []api.Dot, three, than [3]int) bool {
	height, width := bend(l, three)
	otherHeight, otherWidth := bend(l, than)
	return max(height, -height)*otherWidth > max(otherHeight, -otherHeight)*width
}

// lineOfThree lies halfway between the line through the outer dots and the one beside it through the middle dot:
// the three errors are then as great in size, with signs in turn.
func lineOfThree(l []api.Dot, three [3]int) api.Trend {
	a, c := l[three[0]], l[three[2]]
	height, width := bend(l, three)
	return api.Trend{
		Start: whole.Reduced(2*(a.Y*width-(c.Y-a.Y)*a.X)+height, 2*width),
		Slope: whole.Reduced(c.Y-a.Y, width),
		Error: whole.Reduced(max(height, -height), 2*width),
		Proof: three,
	}
}

// CheckLine accepts a best line with its error and three dots that prove it (P1.7).
func CheckLine(l []api.Dot, t api.Trend) api.Errno {
	if e := checkDots(l); e != api.OK {
		return e
	}
	if e := firstError(CheckFrac(t.Start), CheckFrac(t.Slope), CheckFrac(t.Error)); e != api.OK {
		return e
	}
	common, fits := commonMultiple(maxCommon, t.Start, t.Slope, t.Error)
	if !fits {
		return api.ErrLarge
	}
	if e := checkThree(len(l), t.Proof); e != api.OK {
		return e
	}
	times := func(f api.Frac) int { return f.Num * (common / f.Den) }
	start, slope, most := times(t.Start), times(t.Slope), times(t.Error)
	errorAt := func(i int) int { return l[i].Y*common - start - slope*l[i].X }
	for i := range l {
		if !whole.Within(errorAt(i), most) {
			return api.ErrBreak
		}
	}
	first, middle, last := errorAt(t.Proof[0]), errorAt(t.Proof[1]), errorAt(t.Proof[2])
	if first != -middle || last != first || max(first, middle) != most {
		return api.ErrProof
	}
	return api.OK
}

func checkThree(dots int, three [3]int) api.Errno {
	for _, i := range three {
		if i < 0 || i >= dots {
			return api.ErrMissing
		}
	}
	if three[0] >= three[1] || three[1] >= three[2] {
		return api.ErrOrder
	}
	return api.OK
}

// commonMultiple returns the least common multiple of denominators, if it is at most most.
// It ends at the first one that leads beyond: the product of three denominators may not be an int.
func commonMultiple(most int, l ...api.Frac) (int, bool) {
	multiple := 1
	for _, f := range l {
		multiple *= f.Den / int(whole.CommonDivisor(whole.Size(multiple), whole.Size(f.Den)))
		if multiple > most {
			return 0, false
		}
	}
	return multiple, true
}
