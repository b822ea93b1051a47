package upkeep

import (
	"cmp"

	"agraffe/api"
	"agraffe/temper"
	"agraffe/whole"
)

const (
	maxHeard     = 1000000000 // bounds of what is heard, in size
	maxFrequency = 20000000
)

// listed are tests that went before in a list.
type listed map[api.BeatTest]bool

// add takes a test into the list, and returns the error that it has there.
func (before listed) add(b api.BeatTest) api.Errno {
	if e := temper.CheckTest(b); e != api.OK {
		return e
	}
	if before[b] {
		return api.ErrExists
	}
	before[b] = true
	return api.OK
}

// CheckTests returns the error of tests (P7.1).
func CheckTests(l []api.BeatTest) api.Errno {
	if len(l) > api.MaxBeatTests {
		return api.ErrLarge
	}
	before := make(listed)
	for _, b := range l {
		if e := before.add(b); e != api.OK {
			return e
		}
	}
	return api.OK
}

// CheckCounts returns the error of counts (P7.1).
func CheckCounts(l []api.BeatCount) api.Errno {
	if len(l) > api.MaxBeatTests {
		return api.ErrLarge
	}
	before := make(listed)
	for _, c := range l {
		if e := cmp.Or(before.add(c.Test), spanError(c.Heard, -maxHeard, maxHeard)); e != api.OK {
			return e
		}
	}
	return api.OK
}

// spanError is for a range of numbers from low to high.
func spanError(r api.Range, low, high int) api.Errno {
	if e := cmp.Or(whole.RangeError(r.Lo, low, high), whole.RangeError(r.Hi, low, high)); e != api.OK {
		return e
	}
	if r.Hi < r.Lo {
		return api.ErrOrder
	}
	return api.OK
}

// Predicted returns the ranges of the beats of tests (P7.1).
func Predicted(t api.Temperament, fork int, l []api.BeatTest) ([]api.Range, api.Errno) {
	if e := cmp.Or(temper.CheckTemperament(t), forkError(fork), CheckTests(l)); e != api.OK {
		return nil, e
	}
	ranges := make([]api.Range, len(l))
	for n, b := range l {
		beats, e := temper.Beats(t, fork, b)
		if e != api.OK {
			return nil, e
		}
		ranges[n] = beats
	}
	return ranges, api.OK
}

// Failed returns the numbers of the counts that a temperament does not predict (P7.1).
func Failed(t api.Temperament, fork int, l []api.BeatCount) ([]int, api.Errno) {
	if e := cmp.Or(temper.CheckTemperament(t), forkError(fork), CheckCounts(l)); e != api.OK {
		return nil, e
	}
	var failed []int
	for n, c := range l {
		beats, e := temper.Beats(t, fork, c.Test)
		if e != api.OK {
			return nil, e
		}
		if !meet(c.Heard, beats) {
			failed = append(failed, n)
		}
	}
	return failed, api.OK
}

// meet tells whether two ranges have a number in common.
func meet(a, b api.Range) bool {
	return a.Lo <= b.Hi && b.Lo <= a.Hi
}

// Heard returns what is heard of tests if the notes have these frequencies (P7.2).
func Heard(s []api.Sounding, l []api.BeatTest) ([]api.BeatCount, api.Errno) {
	if e := cmp.Or(soundingsError(s), CheckTests(l)); e != api.OK {
		return nil, e
	}
	frequencies := make(map[int]api.Range, len(s))
	for _, x := range s {
		frequencies[x.Note] = x.Freq
	}
	counts := make([]api.BeatCount, len(l))
	for n, b := range l {
		low, lowSounds := frequencies[b.Low]
		high, highSounds := frequencies[b.High]
		if !lowSounds || !highSounds {
			return nil, api.ErrMissing
		}
		heard := api.Range{Lo: b.Q*high.Lo - b.P*low.Hi, Hi: b.Q*high.Hi - b.P*low.Lo}
		counts[n] = api.BeatCount{Test: b, Heard: heard}
	}
	return counts, api.OK
}

func soundingsError(l []api.Sounding) api.Errno {
	if len(l) > noteCount {
		return api.ErrLarge
	}
	for n, s := range l {
		if e := cmp.Or(noteError(s.Note), spanError(s.Freq, 1, maxFrequency)); e != api.OK {
			return e
		}
		if n > 0 && s.Note <= l[n-1].Note {
			return api.ErrOrder
		}
	}
	return api.OK
}
