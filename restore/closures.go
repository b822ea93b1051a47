package restore

import (
	"slices"

	"agraffe/api"
	"agraffe/sets"
)

// CheckClosure accepts a closed set that contains another one (P8.2).
func CheckClosure(t []api.Task, want, set []string) api.Errno {
	w, wanted, e := worksWith(t, want)
	if e != api.OK {
		return e
	}
	chosen, e := w.setOf(set)
	if e != api.OK {
		return e
	}
	return w.closureError(wanted, chosen)
}

// closureError is for a set that has to be closed, and to contain another one.
func (w works) closureError(want, set sets.Set) api.Errno {
	needed := want
	for n := range set.All() {
		needed |= w.needs[n]
	}
	if needed&^set != 0 {
		return api.ErrGap
	}
	noneOf := func(group sets.Set) bool { return group&set == 0 }
	for n := range set.All() {
		if slices.ContainsFunc(w.groups[n], noneOf) {
			return api.ErrNone
		}
	}
	return api.OK
}

// ByFirst returns the least set that contains another one, and with each task all that it needs and the first task of
// each of its groups (P8.2).
func ByFirst(t []api.Task, want []string) ([]string, api.Errno) {
	w, set, e := worksWith(t, want)
	if e != api.OK {
		return nil, e
	}
	// Behind its turn no task is added any more: what leads to it had its turn before.
	for _, n := range slices.Backward(w.order(w.all())) {
		if !set.Has(n) {
			continue
		}
		set |= w.needs[n]
		for _, group := range t[n].OneOf {
			set |= w.named(group[:1])
		}
	}
	return w.names(set), api.OK
}
