package restore

import (
	"slices"

	"agraffe/api"
	"agraffe/sets"
	"agraffe/whole"
	"agraffe/words"
)

const (
	maxPrice  = 1000000000 // prices of tasks, and of parts
	maxHours  = 10000
	maxNeeds  = 10
	maxGroups = 6
	maxGroup  = 6 // tasks of a group
	maxParts  = 10
	maxTaken  = 1000 // pieces of a part that a task takes
	maxAsked  = 20   // tasks for which a finding asks
)

// works are tasks that are right, with what their names stand for. Sets of them are kept by their numbers, which
// MaxTasks keeps below 64.
type works struct {
	tasks   []api.Task
	numbers map[string]int
	needs   []sets.Set   // of each task those that it needs
	groups  [][]sets.Set // of each task its groups
	leads   []sets.Set   // of each task those that it leads to
}

func taskName(t api.Task) string {
	return t.Name
}

// CheckTasks returns the error of tasks (P8.1).
func CheckTasks(l []api.Task) api.Errno {
	_, e := worksOf(l)
	return e
}

// worksOf is for functions with tasks.
func worksOf(l []api.Task) (works, api.Errno) {
	w := works{tasks: l, numbers: words.NumbersOf(l, taskName)}
	if e := listError(l, api.MaxTasks, taskName, w.taskError); e != api.OK {
		return works{}, e
	}
	for _, t := range l {
		needs := w.named(t.Needs)
		leads, groups := needs, make([]sets.Set, len(t.OneOf))
		for n, group := range t.OneOf {
			groups[n] = w.named(group)
			leads |= groups[n]
		}
		w.needs, w.groups, w.leads = append(w.needs, needs), append(w.groups, groups), append(w.leads, leads)
	}
	if len(w.order(w.all())) < len(l) {
		return works{}, api.ErrCycle
	}
	return w, api.OK
}

// worksWith is for functions with tasks and a set of them.
func worksWith(l []api.Task, names []string) (works, sets.Set, api.Errno) {
	w, e := worksOf(l)
	if e != api.OK {
		return works{}, 0, e
	}
	set, e := w.setOf(names)
	if e != api.OK {
		return works{}, 0, e
	}
	return w, set, api.OK
}

// taskError is for what is behind the name of a task; of the works it takes the names alone.
func (w works) taskError(t api.Task) api.Errno {
	if !whole.Between(t.Cents, 0, maxPrice) || !whole.Between(t.Hours, 0, maxHours) {
		return api.ErrRange
	}
	tooMany := func(group []string) bool { return len(group) > maxGroup }
	if len(t.Needs) > maxNeeds || len(t.OneOf) > maxGroups || slices.ContainsFunc(t.OneOf, tooMany) || len(t.Parts) > maxParts {
		return api.ErrLarge
	}
	if e := words.NamesError(t.Needs, w.numbers); e != api.OK {
		return e
	}
	for _, group := range t.OneOf {
		if len(group) == 0 {
			return api.ErrShape
		}
		if e := words.NamesError(group, w.numbers); e != api.OK {
			return e
		}
	}
	return countsError(t.Parts, maxParts, maxTaken)
}

// countsError is for at most so many parts, of each of which there are at most so many pieces.
func countsError(l []api.PartCount, parts, pieces int) api.Errno {
	nameOf := func(p api.PartCount) string { return p.Part }
	return listError(l, parts, nameOf, func(p api.PartCount) api.Errno {
		return whole.RangeError(p.Count, 1, pieces)
	})
}

// CheckFindings returns the error of findings (P8.1).
func CheckFindings(t []api.Task, f []api.Finding) api.Errno {
	w, e := worksOf(t)
	if e != api.OK {
		return e
	}
	nameOf := func(x api.Finding) string { return x.Name }
	return listError(f, api.MaxFindings, nameOf, func(x api.Finding) api.Errno {
		if len(x.Tasks) > maxAsked {
			return api.ErrLarge
		}
		return words.NamesError(x.Tasks, w.numbers)
	})
}

// all returns the set of all tasks.
func (w works) all() sets.Set {
	return sets.Below(len(w.tasks))
}

func (w works) has(name string) bool {
	_, found := w.numbers[name]
	return found
}

// setOf returns the set with some names, or its error.
func (w works) setOf(names []string) (sets.Set, api.Errno) {
	if e := sets.ListError(names, w.has); e != api.OK {
		return 0, e
	}
	return w.named(names), api.OK
}

func (w works) named(names []string) sets.Set {
	var set sets.Set
	for _, name := range names {
		set |= sets.Single(w.numbers[name])
	}
	return set
}

// names returns those of the tasks of a set, ascending.
func (w works) names(set sets.Set) []string {
	var names []string
	for n := range set.All() {
		names = append(names, w.tasks[n].Name)
	}
	slices.Sort(names)
	return names
}

// order takes, again and again, the first task of a set of which all tasks of the set that it leads to are placed.
// Tasks that lead to each other in a circle are never placed, nor are those that lead there.
func (w works) order(set sets.Set) []int {
	var order []int
	left := set
	ready := func(n int) bool { return w.leads[n]&left == 0 }
	for {
		waiting := left.List()
		next := slices.IndexFunc(waiting, ready)
		if next < 0 {
			return order
		}
		order = append(order, waiting[next])
		left &^= sets.Single(waiting[next])
	}
}
