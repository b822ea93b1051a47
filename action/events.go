package action

import (
	"cmp"
	"slices"

	"agraffe/api"
	"agraffe/fraction"
	"agraffe/whole"
)

const maxGap = 2000

// happening is an event that happens, and its dip.
type happening struct {
	event string
	dip   api.Frac
}

// EventAt returns the dip at which an event happens (P4.6).
func EventAt(a api.Action, event string) (api.Frac, api.Errno) {
	if e := cmp.Or(CheckAction(a), missingEvent(a, event)); e != api.OK {
		return api.Frac{}, e
	}
	return dipOf(a, event)
}

func missingEvent(a api.Action, event string) api.Errno {
	if !slices.ContainsFunc(a.Events, eventNamed(event)) {
		return api.ErrMissing
	}
	return api.OK
}

func dipOf(a api.Action, event string) (api.Frac, api.Errno) {
	v := a.Events[slices.IndexFunc(a.Events, eventNamed(event))]
	c, e := curveOf(a, v.Part)
	if e != api.OK {
		return api.Frac{}, e
	}
	return reached(c, fraction.Whole(v.Level), v.Falling)
}

// stroke returns the events that happen, in their order.
func stroke(a api.Action) ([]happening, api.Errno) {
	var l []happening
	for _, v := range a.Events {
		dip, e := dipOf(a, v.Name)
		if e == api.ErrNone {
			continue
		}
		if e != api.OK {
			return nil, e
		}
		l = append(l, happening{v.Name, dip})
	}
	slices.SortStableFunc(l, func(a, b happening) int { return fraction.Compare(a.dip, b.dip) })
	return l, api.OK
}

// Order returns the events that happen, by their dips (P4.6).
func Order(a api.Action) ([]string, api.Errno) {
	if e := CheckAction(a); e != api.OK {
		return nil, e
	}
	return happenedUpTo(a, fraction.Whole(a.Dip))
}

// Happened returns the events that have happened at a dip (P4.6).
func Happened(a api.Action, dip api.Frac) ([]string, api.Errno) {
	if e := cmp.Or(CheckAction(a), dipError(a, dip)); e != api.OK {
		return nil, e
	}
	return happenedUpTo(a, dip)
}

func happenedUpTo(a api.Action, dip api.Frac) ([]string, api.Errno) {
	l, e := stroke(a)
	if e != api.OK {
		return nil, e
	}
	var names []string
	for _, h := range l {
		if fraction.Compare(h.dip, dip) <= 0 {
			names = append(names, h.event)
		}
	}
	return names, api.OK
}

// CheckOrder accepts an order of events with a gap between them, or returns the number of the first wrong one (P4.6).
func CheckOrder(a api.Action, order []string, gap int) (int, api.Errno) {
	if e := CheckAction(a); e != api.OK {
		return 0, e
	}
	if n, e := namesError(a, order); e != api.OK {
		return n, e
	}
	if !whole.Between(gap, 0, maxGap) {
		return 0, api.ErrRange
	}
	var before api.Frac
	for n, name := range order {
		dip, e := dipOf(a, name)
		if e != api.OK {
			return n, e
		}
		if n > 0 && comesEarly(dip, before, gap) {
			return n, api.ErrOrder
		}
		before = dip
	}
	return 0, api.OK
}

func namesError(a api.Action, order []string) (int, api.Errno) {
	if len(order) > api.MaxActionEvents {
		return 0, api.ErrLarge
	}
	for n, name := range order {
		if e := missingEvent(a, name); e != api.OK {
			return n, e
		}
		if slices.Contains(order[:n], name) {
			return n, api.ErrExists
		}
	}
	return 0, api.OK
}

// comesEarly tells whether a dip is less than another one and a gap. No dip is below 0: so it is where the gap leads
// below 0, and elsewhere the dip less the gap is a small number, which is compared exactly.
func comesEarly(dip, before api.Frac, gap int) bool {
	dip.Num -= gap * dip.Den
	return dip.Num < 0 || fraction.Compare(dip, before) < 0
}

// Aftertouch returns what is left of the full dip behind an event (P4.6).
func Aftertouch(a api.Action, event string) (api.Frac, api.Errno) {
	dip, e := EventAt(a, event)
	if e != api.OK {
		return api.Frac{}, e
	}
	return fraction.From(fraction.Whole(a.Dip)).Less(dip).End()
}
