package upkeep

import (
	"cmp"
	"slices"

	"agraffe/api"
	"agraffe/whole"
)

const maxHumidity = 1000

// CheckClimate returns the error of a climate (P7.7).
func CheckClimate(l []api.Climate) api.Errno {
	switch {
	case len(l) == 0:
		return api.ErrNone
	case len(l) > api.MaxReadings:
		return api.ErrLarge
	}
	for n, c := range l {
		if e := readingError(c); e != api.OK {
			return e
		}
		if n > 0 && c.Day <= l[n-1].Day {
			return api.ErrOrder
		}
	}
	return api.OK
}

func readingError(c api.Climate) api.Errno {
	return cmp.Or(dayError(c.Day), humidityError(c.Humidity))
}

func humidityError(humidity int) api.Errno {
	return whole.RangeError(humidity, 0, maxHumidity)
}

// AddReading returns the readings with one more at their end (P7.7).
func AddReading(l []api.Climate, c api.Climate) ([]api.Climate, api.Errno) {
	more := append(slices.Clone(l), c)
	if e := CheckClimate(more); e != api.OK {
		return nil, e
	}
	return more, api.OK
}

// HumidityOn returns the humidity of a day (P7.7).
func HumidityOn(l []api.Climate, day int) (int, api.Errno) {
	if e := cmp.Or(CheckClimate(l), dayError(day)); e != api.OK {
		return 0, e
	}
	return humidityOn(l, day), api.OK
}

func humidityOn(l []api.Climate, day int) int {
	for _, c := range slices.Backward(l) {
		if c.Day <= day {
			return c.Humidity
		}
	}
	return l[0].Humidity
}
