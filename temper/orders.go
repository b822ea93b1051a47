package temper

import (
	"cmp"
	"slices"

	"agraffe/api"
	"agraffe/whole"
)

const (
	bearingsLow  = 32
	bearingsHigh = 44
	noNote       = -1
)

// Bearings returns the bearings (P6.7).
func Bearings() []api.TuneStep {
	note := api.ForkNote - 12
	l := []api.TuneStep{{From: api.ForkNote, To: note}}
	for range 11 {
		next := note + 7
		if next > bearingsHigh {
			next = note - 5
		}
		l = append(l, api.TuneStep{From: note, To: next})
		note = next
	}
	return append(l, api.TuneStep{From: bearingsHigh, To: bearingsLow})
}

// Order returns the bearings, and octaves from them up to high and down to low (P6.7).
func Order(low, high int) ([]api.TuneStep, api.Errno) {
	if e := cmp.Or(whole.RangeError(low, 0, bearingsLow), whole.RangeError(high, api.ForkNote, api.LastNote)); e != api.OK {
		return nil, e
	}
	l := Bearings()
	for note := bearingsHigh + 1; note <= high; note++ {
		if note != api.ForkNote {
			l = append(l, api.TuneStep{From: note - 12, To: note})
		}
	}
	for note := bearingsLow - 1; note >= low; note-- {
		l = append(l, api.TuneStep{From: note + 12, To: note})
	}
	return l, api.OK
}

// sources are, for each note, the note that it is tuned from: for the fork's note itself, and noNote for a note that
// is not tuned.
type sources [noteCount]int

func forkAlone() sources {
	var from sources
	for note := range from {
		from[note] = noNote
	}
	from[api.ForkNote] = api.ForkNote
	return from
}

func (from sources) tuned(note int) bool {
	return from[note] != noNote
}

// sourcesOf goes through steps with notes from low to high.
func sourcesOf(l []api.TuneStep, low, high int) (sources, api.Errno) {
	if len(l) > api.MaxTuneSteps {
		return sources{}, api.ErrLarge
	}
	from, consonant := forkAlone(), ratios()
	for _, s := range l {
		if !whole.Between(s.From, low, high) || !whole.Between(s.To, low, high) {
			return sources{}, api.ErrRange
		}
		_, isConsonance := consonant[max(s.From, s.To)-min(s.From, s.To)]
		switch {
		case !from.tuned(s.From):
			return sources{}, api.ErrState
		case from.tuned(s.To):
			return sources{}, api.ErrExists
		case !isConsonance:
			return sources{}, api.ErrKind
		}
		from[s.To] = s.From
	}
	return from, api.OK
}

// CheckOrder accepts an order of all notes from low to high (P6.7).
func CheckOrder(l []api.TuneStep, low, high int) api.Errno {
	if e := cmp.Or(noteError(low), noteError(high), whole.RangeError(api.ForkNote, low, high)); e != api.OK {
		return e
	}
	from, e := sourcesOf(l, low, high)
	if e != api.OK {
		return e
	}
	for note := low; note <= high; note++ {
		if !from.tuned(note) {
			return api.ErrGap
		}
	}
	return api.OK
}

// way returns the notes from the fork to a note that is tuned.
func (from sources) way(note int) []int {
	way := []int{note}
	for note != api.ForkNote {
		note = from[note]
		way = append(way, note)
	}
	slices.Reverse(way)
	return way
}

// Derived returns the pitch of a note as it comes out of an order, and the notes on the way to it (P6.8).
func Derived(t api.Temperament, l []api.TuneStep, note int) (api.Pitch, []int, api.Errno) {
	from, stepsError := sourcesOf(l, 0, api.LastNote)
	c, e := circleOf(t, stepsError, noteError(note))
	if e != api.OK {
		return api.Pitch{}, nil, e
	}
	if !from.tuned(note) {
		return api.Pitch{}, nil, api.ErrMissing
	}
	way := from.way(note)
	var derived exponents
	for n, next := range way[1:] {
		derived = sum(derived, c.interval(way[n], next))
	}
	p, e := pitchOf(derived)
	if e != api.OK {
		return api.Pitch{}, nil, e
	}
	return p, way, api.OK
}
