package upkeep

import (
	"cmp"

	"agraffe/api"
	"agraffe/whole"
)

const (
	maxPerMille = 500
	maxMissing  = 200000 // what is missing, and bounds of it
	maxDrop     = 999
)

// CheckOverpull returns the error of a table of overpulls (P7.5).
func CheckOverpull(l []api.Overpull) api.Errno {
	if len(l) > api.MaxOverpulls {
		return api.ErrLarge
	}
	for n, o := range l {
		if e := cmp.Or(noteError(o.From), noteError(o.To), whole.RangeError(o.PerMille, 0, maxPerMille)); e != api.OK {
			return e
		}
		if o.To < o.From || n > 0 && o.From <= l[n-1].To {
			return api.ErrOrder
		}
	}
	return api.OK
}

func overpullAt(l []api.Overpull, note int) int {
	for _, o := range l {
		if whole.Between(note, o.From, o.To) {
			return o.PerMille
		}
	}
	return 0
}

// OverpullAt returns the overpull of a note (P7.5).
func OverpullAt(l []api.Overpull, note int) (int, api.Errno) {
	if e := cmp.Or(CheckOverpull(l), noteError(note)); e != api.OK {
		return 0, e
	}
	return overpullAt(l, note), api.OK
}

// Raise returns for each note by how much it is raised (P7.5).
func Raise(l []api.Overpull, missing []int, most int) ([]int, api.Errno) {
	if e := cmp.Or(CheckOverpull(l), missingError(missing), whole.RangeError(most, 0, maxMissing)); e != api.OK {
		return nil, e
	}
	raised := make([]int, noteCount)
	for note, m := range missing {
		raised[note] = m + min(whole.Down(m*overpullAt(l, note), thousand), most)
	}
	return raised, api.OK
}

func missingError(l []int) api.Errno {
	if len(l) != noteCount {
		return api.ErrShape
	}
	for _, m := range l {
		if e := whole.RangeError(m, 0, maxMissing); e != api.OK {
			return e
		}
	}
	return api.OK
}

// Passes returns how many passes are needed until at most the tolerance is missing (P7.5).
// Less than a whole drops from pass to pass, so that what is missing only shrinks, until it stays as it is.
func Passes(missing, drop, tolerance int) (int, api.Errno) {
	e := cmp.Or(whole.RangeError(missing, 0, maxMissing), whole.RangeError(drop, 0, maxDrop), whole.RangeError(tolerance, 0, maxMissing))
	if e != api.OK {
		return 0, e
	}
	passes := 0
	for missing > tolerance {
		again := whole.Up(missing*drop, thousand)
		if again == missing {
			return 0, api.ErrNone
		}
		missing = again
		passes++
	}
	return passes, api.OK
}
