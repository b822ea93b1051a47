package restore

import (
	"slices"

	"agraffe/api"
	"agraffe/whole"
	"agraffe/words"
)

const maxStock = 10000 // pieces of a part, in the stock and in a promise

func stockedName(s api.Stocked) string {
	return s.Part
}

// CheckStock returns the error of a stock (P8.1).
func CheckStock(l []api.Stocked) api.Errno {
	return listError(l, api.MaxStocked, stockedName, func(s api.Stocked) api.Errno {
		if !whole.Between(s.Cents, 0, maxPrice) || !whole.Between(s.Count, 0, maxStock) {
			return api.ErrRange
		}
		return api.OK
	})
}

// pricesOf returns what tells the price of a part, and whether the stock has the part.
func pricesOf(s []api.Stocked) func(part string) (int, bool) {
	numbers := words.NumbersOf(s, stockedName)
	return func(part string) (int, bool) {
		n, found := numbers[part]
		if !found {
			return 0, false
		}
		return s[n].Cents, true
	}
}

// leftBehind returns what is left of each part behind promises, or the error of these.
func leftBehind(s []api.Stocked, l []api.PartPromise) (map[string]int, api.Errno) {
	if e := CheckStock(s); e != api.OK {
		return nil, e
	}
	if len(l) > api.MaxPromises {
		return nil, api.ErrLarge
	}
	left := make(map[string]int)
	for _, p := range s {
		left[p.Part] = p.Count
	}
	for _, p := range l {
		if e := promiseError(p, left); e != api.OK {
			return nil, e
		}
		left[p.Part] -= p.Count
	}
	return left, api.OK
}

func promiseError(p api.PartPromise, left map[string]int) api.Errno {
	count, found := left[p.Part]
	switch {
	case !words.IsName(p.Instrument):
		return api.ErrName
	case !found:
		return api.ErrMissing
	case !whole.Between(p.Count, 1, maxStock):
		return api.ErrRange
	case p.Count > count:
		return api.ErrStock
	}
	return api.OK
}

// CheckPromises returns the error of promises (P8.5).
func CheckPromises(s []api.Stocked, l []api.PartPromise) api.Errno {
	_, e := leftBehind(s, l)
	return e
}

// AddPromise returns promises with one more behind them (P8.5).
func AddPromise(s []api.Stocked, l []api.PartPromise, p api.PartPromise) ([]api.PartPromise, api.Errno) {
	if e := CheckPromises(s, l); e != api.OK {
		return nil, e
	}
	more := append(slices.Clone(l), p)
	if e := CheckPromises(s, more); e != api.OK {
		return nil, e
	}
	return more, api.OK
}

// LeftOf returns what is left of each part, in the order of the stock (P8.5).
func LeftOf(s []api.Stocked, l []api.PartPromise) ([]api.PartCount, api.Errno) {
	left, e := leftBehind(s, l)
	if e != api.OK {
		return nil, e
	}
	counts := make([]api.PartCount, len(s))
	for n, p := range s {
		counts[n] = api.PartCount{Part: p.Part, Count: left[p.Part]}
	}
	return counts, api.OK
}

// MissingParts returns how many pieces of parts that are needed are not left (P8.5).
func MissingParts(s []api.Stocked, l []api.PartPromise, need []api.PartCount) ([]api.PartCount, api.Errno) {
	left, e := leftBehind(s, l)
	if e != api.OK {
		return nil, e
	}
	if e := countsError(need, api.MaxStocked, maxStock); e != api.OK {
		return nil, e
	}
	var missing []api.PartCount
	for _, p := range need {
		if count := p.Count - left[p.Part]; count > 0 {
			missing = append(missing, api.PartCount{Part: p.Part, Count: count})
		}
	}
	return missing, api.OK
}
