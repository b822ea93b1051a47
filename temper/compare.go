package temper

import (
	"slices"

	"agraffe/api"
)

// Well tells whether no fifth is wider than 3/2, and no major third wider than 81/64 (P6.6).
// It looks at the fifths alone: 81/64 is the third of four pure ones, so that no third is wider if no fifth is.
func Well(t api.Temperament) (bool, api.Errno) {
	c, e := circleOf(t)
	if e != api.OK {
		return false, e
	}
	isWide := func(fifth exponents) bool { return compare(fifth, pureFifth) > 0 }
	return !slices.ContainsFunc(c.fifths[:], isWide), api.OK
}

// Widest returns the first class on which the widest major third stands (P6.6).
func Widest(t api.Temperament) (int, api.Errno) {
	c, e := circleOf(t)
	if e != api.OK {
		return 0, e
	}
	widest := 0
	for class := range classCount {
		if compare(c.third(class), c.third(widest)) > 0 {
			widest = class
		}
	}
	return widest, api.OK
}

// Against tells of each class whether it is lower, the same or higher in a than in b, from the A that both have (P6.6).
func Against(a, b api.Temperament) ([]int, api.Errno) {
	x, e := circleOf(a)
	if e != api.OK {
		return nil, e
	}
	y, e := circleOf(b)
	if e != api.OK {
		return nil, e
	}
	orders := make([]int, classCount)
	for class := range classCount {
		orders[class] = compare(x.overA(class), y.overA(class))
	}
	return orders, api.OK
}

func (c circle) overA(class int) exponents {
	a, _ := placeOf(api.ForkNote)
	return sum(c.classes[class], times(c.classes[a], -1))
}
