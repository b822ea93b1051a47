package restore_test

import (
	"slices"
	"testing"

	"agraffe/api"
	"agraffe/restore"
)

// orderOf is the order of a set as the chapter defines it.
func orderOf(l []api.Task, set []string) []string {
	var placed []string
	for len(placed) < len(set) {
		next := slices.IndexFunc(l, func(t api.Task) bool {
			blocked := slices.ContainsFunc(leadsTo(t), func(name string) bool {
				return slices.Contains(set, name) && !slices.Contains(placed, name)
			})
			return slices.Contains(set, t.Name) && !slices.Contains(placed, t.Name) && !blocked
		})
		placed = append(placed, l[next].Name)
	}
	return placed
}

// chainFrom is the greatest hours of a chain of a set that begins with a task.
func chainFrom(l []api.Task, set []string, name string) int {
	x := in(l, []string{name})[0]
	rest := 0
	for _, next := range leadsTo(x) {
		if slices.Contains(set, next) {
			rest = max(rest, chainFrom(l, set, next))
		}
	}
	return x.Hours + rest
}

// P8.4: the order of a set.
func TestKnownOrders(t *testing.T) {
	later := changed(func(l []api.Task) { l[0].Needs, l[1].Needs = []string{"clean"}, nil })
	for _, c := range []struct {
		what      string
		l         []api.Task
		set, want []string
	}{
		{"the example", works(), []string{"clean", "open", "patch", "tune"}, []string{"open", "clean", "patch", "tune"}},
		{"all", works(), []string{"clean", "open", "patch", "renew", "tune"}, []string{"open", "clean", "patch", "renew", "tune"}},
		{"a set that is not closed", works(), []string{"clean", "patch", "tune"}, []string{"clean", "patch", "tune"}},
		{"a gap within", works(), []string{"open", "patch"}, []string{"open", "patch"}},
		{"nothing", works(), nil, nil},
		{"no tasks", nil, nil, nil},
		{"a need behind its task", later, []string{"clean", "open", "renew"}, []string{"clean", "open", "renew"}},
		{"a need that is not in the set", later, []string{"open", "renew"}, []string{"open", "renew"}},
	} {
		names, e := restore.OrderOf(c.l, c.set)
		wantList(t, c.what, names, e, c.want...)
	}
	first := tasks(4)
	first[0].OneOf = [][]string{{"t2", "t3"}}
	names, e := restore.OrderOf(first, []string{"t0", "t1", "t2", "t3"})
	wantList(t, "all tasks of a group", names, e, "t1", "t2", "t3", "t0")
	names, e = restore.OrderOf(first, []string{"t0", "t1", "t2"})
	wantList(t, "one task of a group, and then the first one", names, e, "t1", "t2", "t0")
	names, e = restore.OrderOf(first, []string{"t0", "t1"})
	wantList(t, "no task of a group", names, e, "t0", "t1")
}

// P8.4: sums of hours, and chains.
func TestKnownHours(t *testing.T) {
	for _, c := range []struct {
		what       string
		set        []string
		sum, chain int
	}{
		{"the example", []string{"clean", "open", "patch", "tune"}, 17, 17},
		{"two chains", []string{"clean", "open", "renew"}, 10, 7},
		{"all", []string{"clean", "open", "patch", "renew", "tune"}, 22, 17},
		{"a gap in the chain", []string{"open", "patch", "tune"}, 14, 12},
		{"the last one alone is the longest", []string{"open", "patch"}, 10, 8},
		{"one", []string{"renew"}, 5, 5},
		{"nothing", nil, 0, 0},
	} {
		sum, chain, e := restore.Hours(works(), c.set)
		wantNumber(t, c.what, sum, e, c.sum)
		wantNumber(t, c.what, chain, e, c.chain)
	}
	long := tasks(60)
	for n := range long {
		long[n].Hours = 10000
		if n > 0 {
			long[n].Needs = []string{long[n-1].Name}
		}
	}
	sum, chain, e := restore.Hours(long, namesOf(long))
	wantNumber(t, "60 tasks", sum, e, 600000)
	wantNumber(t, "60 tasks", chain, e, 600000)
}

// P8.4: parts of sets.
func TestKnownParts(t *testing.T) {
	more := changed(func(l []api.Task) {
		l[1].Parts = []api.PartCount{part("wire", 1000), part("Wire", 3)}
		l[4].Parts = []api.PartCount{part("wire", 1000), part("bush", 4), part("felt", 1)}
	})
	for _, c := range []struct {
		what string
		l    []api.Task
		set  []string
		want []api.PartCount
	}{
		{"the example", works(), []string{"clean", "open", "patch", "tune"}, []api.PartCount{part("felt", 2)}},
		{"two tasks", works(), []string{"patch", "renew"}, []api.PartCount{part("felt", 3)}},
		{"none", works(), []string{"clean", "open"}, nil},
		{"nothing", works(), nil, nil},
		{"several", more, []string{"clean", "patch", "tune"}, []api.PartCount{part("Wire", 3), part("bush", 4), part("felt", 3), part("wire", 2000)}},
	} {
		got, e := restore.PartsOf(c.l, c.set)
		wantList(t, c.what, got, e, c.want...)
	}
}

// P8.4, P8.10: random sets of random tasks.
func TestWork(t *testing.T) {
	r := dice()
	for range 300 {
		l := randomTasks(r, from(r, 0, 9))
		set := some(r, namesOf(l))
		names, e := restore.OrderOf(l, set)
		wantList(t, "OrderOf", names, e, orderOf(l, set)...)
		for n, name := range names {
			for _, next := range leadsTo(in(l, []string{name})[0]) {
				if slices.Contains(names[n:], next) {
					t.Fatal("a task stands ahead of one that it leads to:", l, names)
				}
			}
		}
		sum, chain := 0, 0
		counts := map[string]int{}
		for _, x := range in(l, set) {
			sum, chain = sum+x.Hours, max(chain, chainFrom(l, set, x.Name))
			for _, p := range x.Parts {
				counts[p.Part] += p.Count
			}
		}
		gotSum, gotChain, e := restore.Hours(l, set)
		wantNumber(t, "hours", gotSum, e, sum)
		wantNumber(t, "hours of a chain", gotChain, e, chain)
		if gotChain > gotSum {
			t.Fatal("a chain is longer than all:", l, set)
		}
		var want []api.PartCount
		for _, name := range []string{"a", "b", "c"} {
			if counts[name] > 0 {
				want = append(want, part(name, counts[name]))
			}
		}
		got, e := restore.PartsOf(l, set)
		wantList(t, "PartsOf", got, e, want...)
	}
}

// P8.4: the error of the set.
func TestErrorsOfWork(t *testing.T) {
	for want, sets := range badSets() {
		for _, set := range sets {
			names, e := restore.OrderOf(works(), set)
			wantOnly(t, "OrderOf", names, e, want)
			sum, chain, e := restore.Hours(works(), set)
			if wantErr(t, "Hours", e, want); sum != 0 || chain != 0 {
				t.Error("Hours:", sum, chain)
			}
			parts, e := restore.PartsOf(works(), set)
			wantOnly(t, "PartsOf", parts, e, want)
		}
	}
}
