package upkeep

import (
	"cmp"
	"iter"

	"agraffe/api"
	"agraffe/whole"
)

const (
	maxMemory    = 365
	maxRate      = 1000
	maxTolerance = 1000000
	maxDriftDay  = 4000
)

// CheckDrift returns the error of a drift (P7.8).
func CheckDrift(d api.Drift) api.Errno {
	return cmp.Or(
		humidityError(d.Start),
		whole.RangeError(d.Memory, 1, maxMemory),
		whole.RangeError(d.Rate, 0, maxRate),
		whole.RangeError(d.Tolerance, 0, maxTolerance),
	)
}

// moistures yields the days from 0 to the last one, with the moisture of each.
func moistures(d api.Drift, l []api.Climate, last int) iter.Seq2[int, int] {
	return func(yield func(int, int) bool) {
		moisture := thousand * d.Start
		for day := range last + 1 {
			if day > 0 {
				moisture += whole.Down(thousand*humidityOn(l, day)-moisture, d.Memory)
			}
			if !yield(day, moisture) {
				return
			}
		}
	}
}

func offset(d api.Drift, moisture int) int {
	return whole.Down(d.Rate*(moisture-thousand*d.Start), thousand)
}

// Moisture returns the moisture on a day (P7.8).
func Moisture(d api.Drift, l []api.Climate, day int) (int, api.Errno) {
	if e := cmp.Or(CheckDrift(d), CheckClimate(l), whole.RangeError(day, 0, maxDriftDay)); e != api.OK {
		return 0, e
	}
	latest := 0
	for _, moisture := range moistures(d, l, day) {
		latest = moisture
	}
	return latest, api.OK
}

// Offset returns the offset on a day (P7.8).
func Offset(d api.Drift, l []api.Climate, day int) (int, api.Errno) {
	moisture, e := Moisture(d, l, day)
	if e != api.OK {
		return 0, e
	}
	return offset(d, moisture), api.OK
}

// ServiceDay returns the first day on which the offset is too great, but at most within (P7.8).
// On day 0 there is no offset, so that this day is never the first one.
func ServiceDay(d api.Drift, l []api.Climate, within int) (int, api.Errno) {
	if e := cmp.Or(CheckDrift(d), CheckClimate(l), whole.RangeError(within, 1, maxDriftDay)); e != api.OK {
		return 0, e
	}
	for day, moisture := range moistures(d, l, within) {
		if !whole.Within(offset(d, moisture), d.Tolerance) {
			return day, api.OK
		}
	}
	return within, api.OK
}
