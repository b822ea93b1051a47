package restore_test

import (
	"slices"
	"testing"

	"agraffe/api"
	"agraffe/restore"
)

// closureOf is the error of a set that has to be closed, and to contain another one, as the chapter defines it.
func closureOf(l []api.Task, want, set []string) api.Errno {
	if !isSubset(want, set) {
		return api.ErrGap
	}
	for _, t := range in(l, set) {
		if !isSubset(t.Needs, set) {
			return api.ErrGap
		}
	}
	for _, t := range in(l, set) {
		for _, group := range t.OneOf {
			if !slices.ContainsFunc(group, func(name string) bool { return slices.Contains(set, name) }) {
				return api.ErrNone
			}
		}
	}
	return api.OK
}

// P8.2: the examples, and the order of errors.
func TestKnownClosures(t *testing.T) {
	tune := []string{"tune"}
	for _, c := range []struct {
		want, set []string
		e         api.Errno
	}{
		{tune, []string{"open", "renew", "tune"}, api.OK},
		{tune, []string{"clean", "open", "patch", "tune"}, api.OK},
		{tune, []string{"clean", "open", "patch", "renew", "tune"}, api.OK},
		{tune, []string{"renew", "tune"}, api.ErrGap},
		{tune, []string{"open", "tune"}, api.ErrNone},
		{tune, []string{"open", "patch", "tune"}, api.ErrGap},
		{tune, []string{"open"}, api.ErrGap},
		{tune, []string{"clean", "tune"}, api.ErrGap},
		{tune, nil, api.ErrGap},
		{nil, nil, api.OK},
		{nil, []string{"open"}, api.OK},
		{nil, []string{"tune"}, api.ErrNone},
		{[]string{"open"}, []string{"tune"}, api.ErrGap},
		{[]string{"clean", "open"}, []string{"clean", "open"}, api.OK},
		{[]string{"paint"}, []string{"tune", "open"}, api.ErrMissing},
		{[]string{"tune", "open"}, []string{"paint"}, api.ErrOrder},
		{[]string{"tune", "tune"}, nil, api.ErrOrder},
		{tune, []string{"tune", "open"}, api.ErrOrder},
		{tune, []string{"open", "open"}, api.ErrOrder},
		{tune, []string{"tune", "open", "paint"}, api.ErrMissing},
		{tune, []string{"tune", ""}, api.ErrMissing},
	} {
		if e := restore.CheckClosure(works(), c.want, c.set); e != c.e {
			t.Errorf("%v with %v: error %d, want %d", c.want, c.set, e, c.e)
		}
	}
	both := changed(func(l []api.Task) { l[4].Needs = []string{"renew"} })
	wantErr(t, "a task of a group that is needed besides", restore.CheckClosure(both, nil, []string{"open", "renew", "tune"}), api.OK)
	gap := changed(func(l []api.Task) { l[1].Needs, l[3].OneOf = []string{"open", "renew"}, [][]string{{"open"}} })
	wantErr(t, "a gap behind a group", restore.CheckClosure(gap, nil, []string{"clean", "renew"}), api.ErrGap)
	last := tasks(60)
	last[59].Needs, last[0].OneOf = []string{"t58"}, [][]string{{"t57", "t59"}}
	wantErr(t, "the last tasks", restore.CheckClosure(last, []string{"t0"}, []string{"t0", "t58", "t59"}), api.OK)
	wantErr(t, "the last tasks without a need", restore.CheckClosure(last, []string{"t0"}, []string{"t0", "t59"}), api.ErrGap)
	wantErr(t, "the last tasks without a group", restore.CheckClosure(last, []string{"t0"}, []string{"t0", "t58"}), api.ErrNone)
}

// P8.2: all sets of random tasks.
func TestClosures(t *testing.T) {
	r := dice()
	for range 100 {
		l := randomTasks(r, from(r, 0, 6))
		all := allSets(namesOf(l))
		for range 3 {
			want := all[r.IntN(len(all))]
			for _, set := range all {
				if e := restore.CheckClosure(l, want, set); e != closureOf(l, want, set) {
					t.Fatalf("%v, %v with %v: error %d", l, want, set, e)
				}
			}
		}
	}
}

// holdsFirst tells whether a set contains, with each task, all that it needs and the first task of each of its groups.
func holdsFirst(l []api.Task, set []string) bool {
	for _, t := range in(l, set) {
		if !isSubset(t.Needs, set) {
			return false
		}
		for _, group := range t.OneOf {
			if !slices.Contains(set, group[0]) {
				return false
			}
		}
	}
	return true
}

// P8.2, P8.10: ByFirst is contained in all sets of its kind, is one, and is closed.
func TestByFirst(t *testing.T) {
	names, e := restore.ByFirst(works(), []string{"tune"})
	wantList(t, "the example", names, e, "clean", "open", "patch", "tune")
	names, e = restore.ByFirst(works(), []string{"renew"})
	wantList(t, "a need", names, e, "open", "renew")
	names, e = restore.ByFirst(works(), []string{"renew", "tune"})
	wantList(t, "another one of the group", names, e, "clean", "open", "patch", "renew", "tune")
	names, e = restore.ByFirst(works(), nil)
	wantList(t, "nothing", names, e)
	r := dice()
	for range 200 {
		l := randomTasks(r, from(r, 0, 7))
		want := some(r, namesOf(l))
		names, e := restore.ByFirst(l, want)
		wantErr(t, "random tasks", e, api.OK)
		wantErr(t, "the closure", restore.CheckClosure(l, want, names), api.OK)
		for _, set := range allSets(namesOf(l)) {
			if isSubset(want, set) && holdsFirst(l, set) && !isSubset(names, set) {
				t.Fatal(l, want, names, set)
			}
		}
		if !holdsFirst(l, names) {
			t.Fatal(l, want, names)
		}
	}
	for want, sets := range badSets() {
		for _, set := range sets {
			names, e := restore.ByFirst(works(), set)
			wantOnly(t, "ByFirst", names, e, want)
		}
	}
}
