package plate

import (
	"agraffe/api"
	"agraffe/number"
	"agraffe/whole"
)

const (
	maxPull = 10000000000 // tensions, in hundredths of a newton
	perUnit = 100         // in how many parts of a unit of places the lengths of strings are taken
)

// PullOf returns the pull of a string from a place to another one (P3.1).
func PullOf(tension api.Range, from, to [3]int) ([3]api.Range, api.Errno) {
	if !whole.Inside(tension, 0, maxPull) {
		return [3]api.Range{}, api.ErrRange
	}
	if e := placeError(from, to); e != api.OK {
		return [3]api.Range{}, e
	}
	way := vector(to).from(from)
	if way.hasOne(beyond(maxPlace)) {
		return [3]api.Range{}, api.ErrRange
	}
	if from == to {
		return [3]api.Range{}, api.ErrZero
	}
	length := lengthOf(way)
	var pull [3]api.Range
	for i, part := range way {
		pull[i] = component(tension, part, length)
	}
	return pull, api.OK
}

// lengthOf returns the chapter's s. Ways that are right have squares of which number.Root takes the root.
func lengthOf(way vector) api.Range {
	squared := perUnit * perUnit * (way[0]*way[0] + way[1]*way[1] + way[2]*way[2])
	root, _ := number.Root(squared, 2)
	length := api.Range{Lo: root, Hi: root}
	if root*root < squared {
		length.Hi++
	}
	return length
}

// component returns the component of a pull along a part of the way of a string.
// That of the opposite part is its opposite, so that no rounding depends on the direction.
func component(tension api.Range, part int, length api.Range) api.Range {
	if part < 0 {
		ahead := component(tension, -part, length)
		return api.Range{Lo: -ahead.Hi, Hi: -ahead.Lo}
	}
	times := perUnit * part
	return api.Range{Lo: whole.Down(tension.Lo*times, length.Hi), Hi: whole.Up(tension.Hi*times, length.Lo)}
}
