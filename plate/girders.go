package plate

import (
	"cmp"
	"iter"
	"slices"

	"agraffe/api"
	"agraffe/whole"
)

const (
	maxAlong   = 20000 // places along bars and girders, in size
	maxLoad    = 1000000
	maxBending = 1000000000000
)

// laden is a girder with loads between its supports, both of them right.
// Its forces and bendings are whole numbers, which stand over its width.
type laden struct {
	api.Girder
	loads [][2]int
}

func (g laden) width() int {
	return g.B - g.A
}

// upTo yields the places and newtons of the loads up to x.
func (g laden) upTo(x int) iter.Seq2[int, int] {
	return func(yield func(int, int) bool) {
		for _, l := range g.loads {
			if l[0] <= x && !yield(l[0], l[1]) {
				return
			}
		}
	}
}

// reactions returns those at A and at B, by the lever rule.
func (g laden) reactions() (int, int) {
	atA, atB := 0, 0
	for place, load := range g.upTo(g.B) {
		atA += load * (g.B - place)
		atB += load * (place - g.A)
	}
	return atA, atB
}

func (g laden) shear(x int) int {
	force, _ := g.reactions()
	for _, load := range g.upTo(x) {
		force -= load * g.width()
	}
	return force
}

func (g laden) bending(x int) int {
	atA, _ := g.reactions()
	moment := atA * (x - g.A)
	for place, load := range g.upTo(x) {
		moment -= load * (x - place) * g.width()
	}
	return moment
}

// over returns a force or a bending as the fraction that it stands for.
func (g laden) over(n int) api.Frac {
	return whole.Reduced(n, g.width())
}

// worst returns the first place of a load at which the bending is greatest in size, and this bending.
// Between places of loads the bending goes straight, so that it is nowhere greater.
func (g laden) worst() (int, int) {
	if len(g.loads) == 0 {
		return g.A, 0
	}
	var places []int
	for place := range g.upTo(g.B) {
		places = append(places, place)
	}
	slices.Sort(places)
	place := slices.MaxFunc(places, func(a, b int) int {
		return cmp.Compare(whole.Size(g.bending(a)), whole.Size(g.bending(b)))
	})
	return place, g.bending(place)
}

// CheckGirder returns the error of a girder (P3.4).
func CheckGirder(g api.Girder) api.Errno {
	if !whole.Within(g.A, maxAlong) || !whole.Within(g.B, maxAlong) || !whole.Between(g.Most, 0, maxBending) {
		return api.ErrRange
	}
	if g.A >= g.B {
		return api.ErrOrder
	}
	return api.OK
}

// loadsError is for loads on bars, or on a girder, from a place to another one.
func loadsError(l [][2]int, from, to int) api.Errno {
	if len(l) > api.MaxLoads {
		return api.ErrLarge
	}
	for _, load := range l {
		if !whole.Between(load[0], from, to) || !whole.Within(load[1], maxLoad) {
			return api.ErrRange
		}
	}
	return api.OK
}

// ladenOf is for functions with a girder and loads.
func ladenOf(g api.Girder, l [][2]int) (laden, api.Errno) {
	if e := CheckGirder(g); e != api.OK {
		return laden{}, e
	}
	return laden{g, l}, loadsError(l, g.A, g.B)
}

// Reactions returns the reactions at A and B (P3.4).
func Reactions(g api.Girder, l [][2]int) ([2]api.Frac, api.Errno) {
	x, e := ladenOf(g, l)
	if e != api.OK {
		return [2]api.Frac{}, e
	}
	atA, atB := x.reactions()
	return [2]api.Frac{x.over(atA), x.over(atB)}, api.OK
}

// Shear returns the shear force at a place (P3.4).
func Shear(g api.Girder, l [][2]int, x int) (api.Frac, api.Errno) {
	return valueAt(g, l, x, laden.shear)
}

// Bending returns the bending at a place (P3.4).
func Bending(g api.Girder, l [][2]int, x int) (api.Frac, api.Errno) {
	return valueAt(g, l, x, laden.bending)
}

func valueAt(g api.Girder, l [][2]int, place int, value func(laden, int) int) (api.Frac, api.Errno) {
	x, e := ladenOf(g, l)
	if e != api.OK {
		return api.Frac{}, e
	}
	if !whole.Between(place, g.A, g.B) {
		return api.Frac{}, api.ErrRange
	}
	return x.over(value(x, place)), api.OK
}

// Worst returns the place of a load with the greatest bending, and this bending (P3.4).
func Worst(g api.Girder, l [][2]int) (int, api.Frac, api.Errno) {
	x, e := ladenOf(g, l)
	if e != api.OK {
		return 0, api.Frac{}, e
	}
	place, bending := x.worst()
	return place, x.over(bending), api.OK
}

// Holds returns ErrBreak if the greatest bending is more than the girder bears (P3.4).
func Holds(g api.Girder, l [][2]int) api.Errno {
	x, e := ladenOf(g, l)
	if e != api.OK {
		return e
	}
	if _, bending := x.worst(); !whole.Within(bending, x.Most*x.width()) {
		return api.ErrBreak
	}
	return api.OK
}
