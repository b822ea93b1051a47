package plate

import (
	"agraffe/api"
	"agraffe/number"
	"agraffe/whole"
)

const maxMargin = 1000000 // numerators and denominators of loads and limits

// Margin returns a thousand times the limit, divided by the load, rounded down (P3.6).
func Margin(load, limit api.Frac) (int, api.Errno) {
	for _, f := range [2]api.Frac{load, limit} {
		if e := marginError(f); e != api.OK {
			return 0, e
		}
	}
	if load.Num == 0 {
		return 0, api.ErrZero
	}
	return whole.Down(1000*limit.Num*load.Den, limit.Den*load.Num), api.OK
}

func marginError(f api.Frac) api.Errno {
	if e := number.CheckFrac(f); e != api.OK {
		return e
	}
	if !whole.Between(f.Num, 0, maxMargin) || f.Den > maxMargin {
		return api.ErrRange
	}
	return api.OK
}
