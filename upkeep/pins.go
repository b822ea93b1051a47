package upkeep

import (
	"cmp"

	"agraffe/api"
	"agraffe/whole"
)

const maxForce = 100000

// CheckTorques returns the error of the torques of a pin (P7.6).
func CheckTorques(l []api.Torque) api.Errno {
	if len(l) > api.MaxTorques {
		return api.ErrLarge
	}
	for n, t := range l {
		if e := cmp.Or(dayError(t.Day), forceError(t.Force)); e != api.OK {
			return e
		}
		if n > 0 && t.Day <= l[n-1].Day {
			return api.ErrOrder
		}
	}
	return api.OK
}

func forceError(force int) api.Errno {
	return whole.RangeError(force, 0, maxForce)
}

// LooseOn returns the first day, from the last record on, on which a pin is loose (P7.6).
func LooseOn(l []api.Torque, least int) (int, api.Errno) {
	if e := cmp.Or(CheckTorques(l), forceError(least)); e != api.OK {
		return 0, e
	}
	if len(l) < 2 {
		return 0, api.ErrShape
	}
	day := looseOn(l[0], l[len(l)-1], least)
	if day > api.MaxDay {
		return 0, api.ErrNone
	}
	return day, api.OK
}

// looseOn returns a day behind MaxDay if the line never comes to the least force.
func looseOn(first, last api.Torque, least int) int {
	if last.Force <= least {
		return last.Day
	}
	loss := first.Force - last.Force
	if loss <= 0 {
		return api.MaxDay + 1
	}
	return first.Day + whole.Up((first.Force-least)*(last.Day-first.Day), loss)
}
