package action

import (
	"cmp"

	"agraffe/api"
	"agraffe/fraction"
	"agraffe/whole"
)

const (
	maxTouch = 100000 // numbers of windows, in size
	lever    = 1000   // the whole lever of a key, of which places of leads are parts
)

// touch is what the finger feels.
type touch struct{ balance, friction api.Frac }

// sumOfParts adds up what each part gives with its ratio.
func sumOfParts(a api.Action, dip api.Frac, gives func(p api.ActionPart, ratio api.Frac) fraction.Way) (api.Frac, api.Errno) {
	sum := fraction.Whole(0)
	for _, p := range a.Parts {
		c, e := curveOf(a, p.Name)
		if e != api.OK {
			return api.Frac{}, e
		}
		if sum, e = gives(p, slopeAt(c, dip)).Plus(sum).End(); e != api.OK {
			return api.Frac{}, e
		}
	}
	return sum, api.OK
}

func balanceAt(a api.Action, dip api.Frac) (api.Frac, api.Errno) {
	weightOf := func(p api.ActionPart, ratio api.Frac) fraction.Way {
		return fraction.From(fraction.Whole(p.Weight)).Times(ratio)
	}
	balance, e := sumOfParts(a, dip, weightOf)
	if e != api.OK {
		return api.Frac{}, e
	}
	for _, l := range a.Leads {
		if balance, e = withLead(balance, l); e != api.OK {
			return api.Frac{}, e
		}
	}
	return balance, api.OK
}

// withLead returns the balance behind one more lead, whose own numbers are always small.
func withLead(balance api.Frac, l api.Lead) (api.Frac, api.Errno) {
	return fraction.From(balance).Less(whole.Reduced(l.Weight*l.Place, lever)).End()
}

func frictionAt(a api.Action, dip api.Frac) (api.Frac, api.Errno) {
	frictionOf := func(p api.ActionPart, ratio api.Frac) fraction.Way {
		ratio.Num = max(ratio.Num, -ratio.Num)
		return fraction.From(fraction.Whole(p.Friction)).Times(ratio)
	}
	return sumOfParts(a, dip, frictionOf)
}

func touchAt(a api.Action, dip api.Frac) (touch, api.Errno) {
	balance, e := balanceAt(a, dip)
	if e != api.OK {
		return touch{}, e
	}
	friction, e := frictionAt(a, dip)
	return touch{balance, friction}, e
}

// weights returns the down weight and the up weight.
func (t touch) weights() ([2]api.Frac, api.Errno) {
	down, e := fraction.From(t.balance).Plus(t.friction).End()
	up, e2 := fraction.From(t.balance).Less(t.friction).End()
	if e = cmp.Or(e, e2); e != api.OK {
		return [2]api.Frac{}, e
	}
	return [2]api.Frac{down, up}, api.OK
}

// errorIn takes a window that is right.
func (t touch) errorIn(w api.TouchWindow) api.Errno {
	weights, e := t.weights()
	if e != api.OK {
		return e
	}
	if fraction.Compare(weights[0], fraction.Whole(w.Down)) > 0 || fraction.Compare(weights[1], fraction.Whole(w.Up)) < 0 {
		return api.ErrBreak
	}
	return api.OK
}

func windowError(w api.TouchWindow) api.Errno {
	if !whole.Within(w.Down, maxTouch) || !whole.Within(w.Up, maxTouch) {
		return api.ErrRange
	}
	return api.OK
}

// Balance returns the balance at a dip (P4.7).
func Balance(a api.Action, dip api.Frac) (api.Frac, api.Errno) {
	if e := cmp.Or(CheckAction(a), dipError(a, dip)); e != api.OK {
		return api.Frac{}, e
	}
	return balanceAt(a, dip)
}

// Touch returns the down weight and the up weight at a dip (P4.7).
func Touch(a api.Action, dip api.Frac) ([2]api.Frac, api.Errno) {
	if e := cmp.Or(CheckAction(a), dipError(a, dip)); e != api.OK {
		return [2]api.Frac{}, e
	}
	t, e := touchAt(a, dip)
	if e != api.OK {
		return [2]api.Frac{}, e
	}
	return t.weights()
}

// CheckTouch accepts a touch that lies in a window (P4.7).
func CheckTouch(a api.Action, w api.TouchWindow, dip api.Frac) api.Errno {
	if e := cmp.Or(CheckAction(a), windowError(w), dipError(a, dip)); e != api.OK {
		return e
	}
	t, e := touchAt(a, dip)
	if e != api.OK {
		return e
	}
	return t.errorIn(w)
}
