package temper

import (
	"cmp"
	"slices"

	"agraffe/api"
	"agraffe/whole"
	"agraffe/words"
)

// circle is a temperament that is right, by what its twelfths stand for: the ratios of its fifths, and the pitches of
// its classes over C.
type circle struct {
	fifths  [classCount]exponents
	classes [classCount]exponents
}

// CheckTemperament returns the error of a temperament (P6.1).
func CheckTemperament(t api.Temperament) api.Errno {
	_, e := circleOf(t)
	return e
}

// circleOf is for functions with a temperament: the errors of their other arguments come behind its own.
func circleOf(t api.Temperament, others ...api.Errno) (circle, api.Errno) {
	c, e := closedCircle(t)
	return c, cmp.Or(e, cmp.Or(others...))
}

func closedCircle(t api.Temperament) (circle, api.Errno) {
	tooGreat := func(n int) bool { return !whole.Within(n, api.MaxTwelfths) }
	switch {
	case !words.IsName(t.Name):
		return circle{}, api.ErrName
	case slices.ContainsFunc(t.Pyth[:], tooGreat) || slices.ContainsFunc(t.Synt[:], tooGreat):
		return circle{}, api.ErrRange
	}
	c := circle{fifths: fifthsOf(t)}
	if sum(c.fifths[:]...) != octaves(7) {
		return circle{}, api.ErrOpen
	}
	c.classes = classesOf(c.fifths)
	if !spreadFits(c.classes) {
		return circle{}, api.ErrLarge
	}
	return c, api.OK
}

func fifthsOf(t api.Temperament) [classCount]exponents {
	var fifths [classCount]exponents
	for i := range classCount {
		fifths[i] = sum(pureFifth, times(pythagorean, -t.Pyth[i]), times(syntonic, -t.Synt[i]))
	}
	return fifths
}

// classAt returns the class where a fifth begins, and by how many octaves too high the fifths before it reach it.
func classAt(fifth int) (int, int) {
	notes := 7 * fifth
	return notes % classCount, notes / classCount
}

// fifthAt returns the fifth that begins at a class: 7 times 7 is 1, but for four octaves.
func fifthAt(class int) int {
	return 7 * class % classCount
}

func classesOf(fifths [classCount]exponents) [classCount]exponents {
	var classes [classCount]exponents
	for i := range classCount {
		class, above := classAt(i)
		classes[class] = sum(sum(fifths[:i]...), octaves(-above))
	}
	return classes
}

func spreadFits(classes [classCount]exponents) bool {
	least, greatest := classes[0], classes[0]
	for _, x := range classes {
		for n := range x {
			least[n], greatest[n] = min(least[n], x[n]), max(greatest[n], x[n])
		}
	}
	spread := sum(greatest, times(least, -1))
	return slices.Max(spread[:]) <= api.MaxSpread
}

// Named returns the temperament with a name (P6.1).
func Named(name string) (api.Temperament, api.Errno) {
	t := api.Temperament{Name: name}
	switch name {
	case "equal":
		t.Pyth = [classCount]int{1, 1, 1, 1, 1, 1, 1, 1, 1, 1, 1, 1}
	case "pythagoras":
		t.Pyth = [classCount]int{8: 12}
	case "meantone":
		t.Pyth = [classCount]int{8: 12}
		t.Synt = [classCount]int{3, 3, 3, 3, 3, 3, 3, 3, -33, 3, 3, 3}
	case "werckmeister":
		t.Pyth = [classCount]int{0: 3, 1: 3, 2: 3, 5: 3}
	case "kirnberger":
		t.Pyth = [classCount]int{6: 12}
		t.Synt = [classCount]int{0: 3, 1: 3, 2: 3, 3: 3, 6: -12}
	case "vallotti":
		t.Pyth = [classCount]int{11: 2, 0: 2, 1: 2, 2: 2, 3: 2, 4: 2}
	case "young":
		t.Pyth = [classCount]int{0: 2, 1: 2, 2: 2, 3: 2, 4: 2, 5: 2}
	default:
		return api.Temperament{}, api.ErrMissing
	}
	return t, api.OK
}

// Rotated returns the temperament that begins its circle by so many fifths later (P6.1).
// Other classes lie in other octaves over their C then, so that the spread may be another one.
func Rotated(t api.Temperament, fifths int) (api.Temperament, api.Errno) {
	if _, e := circleOf(t, classError(fifths)); e != api.OK {
		return api.Temperament{}, e
	}
	rotated := api.Temperament{Name: t.Name}
	for i := range classCount {
		from := (i + fifths) % classCount
		rotated.Pyth[i], rotated.Synt[i] = t.Pyth[from], t.Synt[from]
	}
	if e := CheckTemperament(rotated); e != api.OK {
		return api.Temperament{}, e
	}
	return rotated, api.OK
}
