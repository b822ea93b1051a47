package temper

import (
	"cmp"

	"agraffe/api"
	"agraffe/whole"
)

const maxRising = 100 // tests whose beats may rise

// ratio is the partials that agree in a pure consonance: P of its low note, and Q of its high one.
type ratio struct{ p, q int }

var consonances = [...]struct {
	semitones int
	ratio     ratio
}{
	{3, ratio{6, 5}},
	{4, ratio{5, 4}},
	{5, ratio{4, 3}},
	{7, ratio{3, 2}},
	{8, ratio{8, 5}},
	{9, ratio{5, 3}},
	{12, ratio{2, 1}},
	{15, ratio{12, 5}},
	{16, ratio{5, 2}},
	{17, ratio{8, 3}},
	{19, ratio{3, 1}},
	{24, ratio{4, 1}},
	{28, ratio{5, 1}},
}

// ratios finds the consonances by their semitones.
func ratios() map[int]ratio {
	found := make(map[int]ratio, len(consonances))
	for _, c := range consonances {
		found[c.semitones] = c.ratio
	}
	return found
}

// RatioOf returns P and Q of a consonance (P6.4).
func RatioOf(semitones int) (int, int, api.Errno) {
	r, found := ratios()[semitones]
	if !found {
		return 0, 0, api.ErrNone
	}
	return r.p, r.q, api.OK
}

// CheckTest returns the error of a test (P6.4).
func CheckTest(b api.BeatTest) api.Errno {
	_, e := pureInterval(b)
	return e
}

// pureInterval returns the interval at which the partials of a test agree, or the error of the test.
func pureInterval(b api.BeatTest) (exponents, api.Errno) {
	partialError := func(n int) api.Errno { return whole.RangeError(n, 1, api.MaxPartial) }
	if e := cmp.Or(noteError(b.Low), noteError(b.High), partialError(b.P), partialError(b.Q)); e != api.OK {
		return exponents{}, e
	}
	if b.High <= b.Low {
		return exponents{}, api.ErrOrder
	}
	p, known := wholeNumber(b.P)
	q, alsoKnown := wholeNumber(b.Q)
	if !known || !alsoKnown {
		return exponents{}, api.ErrKind
	}
	return sum(p, times(q, -1)), api.OK
}

// Beats returns the range of the beats of a test (P6.4).
func Beats(t api.Temperament, fork int, b api.BeatTest) (api.Range, api.Errno) {
	c, e := circleOf(t, forkError(fork), CheckTest(b))
	if e != api.OK {
		return api.Range{}, e
	}
	return c.beats(fork, b)
}

func (c circle) beats(fork int, b api.BeatTest) (api.Range, api.Errno) {
	high, e := c.enclosed(b.High, fork*b.Q)
	low, lowError := c.enclosed(b.Low, fork*b.P)
	if e = cmp.Or(e, lowError); e != api.OK {
		return api.Range{}, e
	}
	return api.Range{Lo: high.Lo - low.Hi, Hi: high.Hi - low.Lo}, api.OK
}

// Purity returns -1 for a narrow interval, 0 for a pure one, 1 for a wide one (P6.4).
// It compares the interval with the pure one, as partials times pitches may be no valid pitches.
func Purity(t api.Temperament, b api.BeatTest) (int, api.Errno) {
	pure, testError := pureInterval(b)
	c, e := circleOf(t, testError)
	if e != api.OK {
		return 0, e
	}
	return compare(c.interval(b.Low, b.High), pure), api.OK
}

// TestsOf returns the tests of all consonances of so many semitones from low to high (P6.5).
func TestsOf(semitones, low, high int) ([]api.BeatTest, api.Errno) {
	p, q, e := RatioOf(semitones)
	if e = cmp.Or(e, noteError(low), noteError(high)); e != api.OK {
		return nil, e
	}
	if high < low {
		return nil, api.ErrOrder
	}
	var l []api.BeatTest
	for note := low; note+semitones <= high; note++ {
		l = append(l, api.BeatTest{Low: note, High: note + semitones, P: p, Q: q})
	}
	return l, api.OK
}

// sizeOf returns the least and the greatest size of a number in a range.
func sizeOf(r api.Range) api.Range {
	return api.Range{Lo: max(0, r.Lo, -r.Hi), Hi: max(-r.Lo, r.Hi)}
}

// Rises tells whether each test but the first is proved to beat faster than the one before it (P6.5).
func Rises(t api.Temperament, fork int, l []api.BeatTest) (bool, api.Errno) {
	c, e := circleOf(t, forkError(fork), testsError(l))
	if e != api.OK {
		return false, e
	}
	sizes := make([]api.Range, len(l))
	for n, b := range l {
		r, e := c.beats(fork, b)
		if e != api.OK {
			return false, e
		}
		sizes[n] = sizeOf(r)
	}
	return ascends(sizes), api.OK
}

func testsError(l []api.BeatTest) api.Errno {
	if len(l) > maxRising {
		return api.ErrLarge
	}
	for _, b := range l {
		if e := CheckTest(b); e != api.OK {
			return e
		}
	}
	return api.OK
}

// ascends tells whether each range lies above the one before it.
func ascends(l []api.Range) bool {
	for n := 1; n < len(l); n++ {
		if l[n].Lo <= l[n-1].Hi {
			return false
		}
	}
	return true
}
