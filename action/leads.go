package action

import (
	"cmp"

	"agraffe/api"
	"agraffe/fraction"
)

// ChooseLeads returns the fewest holes whose leads bring the touch into a window, of several such sets the first one (P4.8).
func ChooseLeads(a api.Action, holes []api.Lead, w api.TouchWindow) ([]int, api.Errno) {
	if e := cmp.Or(CheckAction(a), leadsError(holes), windowError(w)); e != api.OK {
		return nil, e
	}
	t, e := touchAt(a, fraction.Whole(0))
	if e != api.OK {
		return nil, e
	}
	if _, e = t.weights(); e != api.OK {
		return nil, e
	}
	for count := range 1 + min(len(holes), api.MaxLeads-len(a.Leads)) {
		if l, found := firstSet(t, holes, w, count, 0); found {
			return l, api.OK
		}
	}
	return nil, api.ErrNone
}

// firstSet returns the first set of so many holes, from the hole next on, whose leads bring a touch into a window.
// Leads are added in the order of the set: one behind which the balance is not small ends all sets that begin so.
func firstSet(t touch, holes []api.Lead, w api.TouchWindow, count, next int) ([]int, bool) {
	if count == 0 {
		return nil, t.errorIn(w) == api.OK
	}
	for n := next; n <= len(holes)-count; n++ {
		balance, e := withLead(t.balance, holes[n])
		if e != api.OK {
			continue
		}
		if rest, found := firstSet(touch{balance, t.friction}, holes, w, count-1, n+1); found {
			return append([]int{n}, rest...), true
		}
	}
	return nil, false
}
