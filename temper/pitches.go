package temper

import (
	"agraffe/api"
	"agraffe/number"
)

// placeOf returns the class and the octave of a note: notes are counted from A, octaves from C.
func placeOf(note int) (int, int) {
	fromC := note + 9
	return fromC % classCount, fromC / classCount
}

// interval returns the pitch of a note over another one.
func (c circle) interval(low, high int) exponents {
	lowClass, lowOctave := placeOf(low)
	highClass, highOctave := placeOf(high)
	return sum(c.classes[highClass], octaves(highOctave-lowOctave), times(c.classes[lowClass], -1))
}

func (c circle) third(class int) exponents {
	third := octaves(-2)
	for i := range 4 {
		third = sum(third, c.fifths[(fifthAt(class)+i)%classCount])
	}
	return third
}

// enclosed returns the frequency of a note, in the unit of the fork.
func (c circle) enclosed(note, fork int) (api.Range, api.Errno) {
	return number.Enclose(inTwelfths(c.interval(api.ForkNote, note)), fork)
}

// Fifth returns the ratio of a fifth (P6.2).
func Fifth(t api.Temperament, i int) (api.Pitch, api.Errno) {
	c, e := circleOf(t, classError(i))
	if e != api.OK {
		return api.Pitch{}, e
	}
	return pitchOf(c.fifths[i])
}

// Third returns the major third on a class (P6.2).
func Third(t api.Temperament, class int) (api.Pitch, api.Errno) {
	c, e := circleOf(t, classError(class))
	if e != api.OK {
		return api.Pitch{}, e
	}
	return pitchOf(c.third(class))
}

// ClassOf returns the pitch of a class over C (P6.2).
func ClassOf(t api.Temperament, class int) (api.Pitch, api.Errno) {
	c, e := circleOf(t, classError(class))
	if e != api.OK {
		return api.Pitch{}, e
	}
	return pitchOf(c.classes[class])
}

// PitchOf returns the pitch of a note over the fork (P6.2).
func PitchOf(t api.Temperament, note int) (api.Pitch, api.Errno) {
	return Interval(t, api.ForkNote, note)
}

// Interval returns the pitch of high divided by that of low, which may be the higher one (P6.2).
func Interval(t api.Temperament, low, high int) (api.Pitch, api.Errno) {
	c, e := circleOf(t, noteError(low), noteError(high))
	if e != api.OK {
		return api.Pitch{}, e
	}
	return pitchOf(c.interval(low, high))
}

// Frequency returns the enclosure of the frequency of a note (P6.3).
func Frequency(t api.Temperament, fork, note int) (api.Range, api.Errno) {
	c, e := circleOf(t, forkError(fork), noteError(note))
	if e != api.OK {
		return api.Range{}, e
	}
	return c.enclosed(note, fork)
}

// Scale returns the enclosures of the frequencies of all notes (P6.3).
func Scale(t api.Temperament, fork int) ([]api.Range, api.Errno) {
	c, e := circleOf(t, forkError(fork))
	if e != api.OK {
		return nil, e
	}
	frequencies := make([]api.Range, noteCount)
	for note := range frequencies {
		if frequencies[note], e = c.enclosed(note, fork); e != api.OK {
			return nil, e
		}
	}
	return frequencies, api.OK
}
