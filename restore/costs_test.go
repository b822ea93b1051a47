package restore_test

import (
	"cmp"
	"slices"
	"testing"

	"agraffe/api"
	"agraffe/restore"
)

func priceOf(s []api.Stocked, part string) int {
	return s[slices.IndexFunc(s, func(x api.Stocked) bool { return x.Part == part })].Cents
}

// costOf is the cost of a set as the chapter defines it.
func costOf(l []api.Task, s []api.Stocked, set []string) int {
	sum := 0
	for _, t := range in(l, set) {
		sum += t.Cents
		for _, p := range t.Parts {
			sum += p.Count * priceOf(s, p.Part)
		}
	}
	return sum
}

// cheapestOf is the best one of all sets that are closed and contain what is wanted.
func cheapestOf(l []api.Task, s []api.Stocked, want []string) []string {
	var closed [][]string
	for _, set := range allSets(namesOf(l)) {
		if closureOf(l, want, set) == api.OK {
			closed = append(closed, set)
		}
	}
	return slices.MinFunc(closed, func(a, b []string) int {
		return cmp.Or(cmp.Compare(costOf(l, s, a), costOf(l, s, b)), cmp.Compare(len(a), len(b)), slices.Compare(a, b))
	})
}

// P8.3: costs of known sets, closed or not.
func TestKnownCosts(t *testing.T) {
	dear := []api.Stocked{stocked("wire", 1, 0), stocked("felt", 1000000000, 0)}
	most := changed(func(l []api.Task) {
		l[2].Cents, l[2].Parts = 1000000000, []api.PartCount{part("felt", 1000), part("wire", 7)}
	})
	for _, c := range []struct {
		what string
		l    []api.Task
		s    []api.Stocked
		set  []string
		want int
	}{
		{"by renew", works(), shelf(), []string{"open", "renew", "tune"}, 14500},
		{"by patch", works(), shelf(), []string{"clean", "open", "patch", "tune"}, 13000},
		{"both", works(), shelf(), []string{"clean", "open", "patch", "renew", "tune"}, 22500},
		{"a set that is not closed", works(), shelf(), []string{"patch", "tune"}, 10000},
		{"no set", works(), shelf(), nil, 0},
		{"no tasks", nil, nil, nil, 0},
		{"no parts", works(), nil, []string{"clean", "open", "tune"}, 7000},
		{"the greatest price", most, dear, []string{"patch"}, 1001000000007},
	} {
		cents, e := restore.Cost(c.l, c.s, c.set)
		wantNumber(t, c.what, cents, e, c.want)
	}
	all := tasks(60)
	for n := range all {
		all[n].Cents = 1000000000
		for _, p := range parts(10) {
			all[n].Parts = append(all[n].Parts, part(p.Part, 1000))
		}
	}
	var gold []api.Stocked
	for _, p := range parts(10) {
		gold = append(gold, stocked(p.Part, 1000000000, 0))
	}
	cents, e := restore.Cost(all, gold, namesOf(all))
	wantNumber(t, "the greatest prices of all", cents, e, 600060000000000)
}

// P8.3: the errors of Cost, in order.
func TestErrorsOfCost(t *testing.T) {
	for _, c := range []struct {
		what string
		l    []api.Task
		s    []api.Stocked
		set  []string
		want api.Errno
	}{
		{"no such part", works(), nil, []string{"patch"}, api.ErrMissing},
		{"no such part behind others", works(), []api.Stocked{stocked("wire", 1, 1)}, []string{"clean", "open", "renew"}, api.ErrMissing},
		{"an order ahead of no such part", works(), nil, []string{"patch", "open"}, api.ErrOrder},
		{"no such task", works(), shelf(), []string{"paint"}, api.ErrMissing},
		{"a stock ahead of a set", works(), append(shelf(), stocked("", 1, 1)), []string{"patch", "open"}, api.ErrName},
		{"tasks ahead of a stock", badTasks()[api.ErrCycle], append(shelf(), stocked("", 1, 1)), nil, api.ErrCycle},
	} {
		if cents, e := restore.Cost(c.l, c.s, c.set); cents != 0 || e != c.want {
			t.Errorf("%s: %d, error %d, want %d", c.what, cents, e, c.want)
		}
	}
	for want, sets := range badSets() {
		for _, set := range sets {
			cents, e := restore.Cost(works(), shelf(), set)
			if wantErr(t, "Cost", e, want); cents != 0 {
				t.Error(set, cents)
			}
			names, cents, e := restore.Cheapest(works(), nil, set)
			if wantOnly(t, "Cheapest", names, e, want); cents != 0 {
				t.Error(set, cents)
			}
		}
	}
}

func wantCheapest(t *testing.T, what string, l []api.Task, s []api.Stocked, want []string, cents int, names ...string) {
	t.Helper()
	got, n, e := restore.Cheapest(l, s, want)
	wantList(t, what, got, e, names...)
	wantNumber(t, what, n, e, cents)
}

// P8.3: the examples, and sets that cost the same.
func TestKnownCheapest(t *testing.T) {
	tune := []string{"tune"}
	wantCheapest(t, "the example", works(), shelf(), tune, 13000, "clean", "open", "patch", "tune")
	wantCheapest(t, "nothing", works(), shelf(), nil, 0)
	wantCheapest(t, "nothing of nothing", nil, nil, nil, 0)
	wantCheapest(t, "felt is dear", works(), []api.Stocked{stocked("felt", 3500, 0)}, tune, 17500, "open", "renew", "tune")
	// Patch for 13000 and two felts, renew for 15500 and one: with felt at 2000 both cost 16000, and renew is shorter.
	wantCheapest(t, "the same cost", works(), []api.Stocked{stocked("felt", 2000, 0)}, tune, 16000, "open", "renew", "tune")
	wantCheapest(t, "both are wanted", works(), shelf(), []string{"patch", "renew"}, 18500, "clean", "open", "patch", "renew")
	free := changed(func(l []api.Task) {
		l[0].Cents, l[3].Cents, l[3].Parts, l[4].OneOf = 0, 0, nil, [][]string{{"renew", "open"}}
	})
	wantCheapest(t, "no task that costs nothing", free, shelf(), tune, 4000, "open", "tune")
	pair := tasks(4)
	pair[0].Name, pair[0].OneOf = "a", [][]string{{"t2", "t1"}}
	wantCheapest(t, "the same cost and number of tasks", pair, nil, []string{"a"}, 0, "a", "t1")
	pair[0].OneOf = [][]string{{"t3", "t1"}, {"t3", "t2"}}
	wantCheapest(t, "one task for two groups", pair, nil, []string{"a"}, 0, "a", "t3")
	pair[3].Cents = 1
	wantCheapest(t, "two tasks for two groups", pair, nil, []string{"a"}, 0, "a", "t1", "t2")
	wantCheapest(t, "14 tasks", tasks(14), nil, []string{"t13", "t3"}, 0, "t13", "t3")
	wantCheapest(t, "all of 14 tasks", tasks(14), nil, namesOf(tasks(14)), 0, namesOf(tasks(14))...)
}

// P8.3: the errors of Cheapest, in order.
func TestErrorsOfCheapest(t *testing.T) {
	many := append(works(), tasks(10)...)
	for _, c := range []struct {
		what string
		l    []api.Task
		s    []api.Stocked
		want []string
		e    api.Errno
	}{
		{"15 tasks", many, shelf(), []string{"open"}, api.ErrLarge},
		{"15 tasks, none of them wanted", many, shelf(), nil, api.ErrLarge},
		{"a part that is missing of a task that is not wanted", works(), nil, []string{"open"}, api.ErrMissing},
		{"a part that is missing of the last task", changed(func(l []api.Task) { l[4].Parts = parts(1) }), shelf(), nil, api.ErrMissing},
		{"a part ahead of 15 tasks", many, nil, nil, api.ErrMissing},
		{"a set ahead of a part", works(), nil, []string{"open", "clean"}, api.ErrOrder},
		{"a set ahead of 15 tasks", many, shelf(), []string{"open", "clean"}, api.ErrOrder},
		{"a stock ahead of a set", works(), append(shelf(), stocked("felt", 1, 1)), []string{"open", "clean"}, api.ErrExists},
		{"tasks ahead of a stock", badTasks()[api.ErrCycle], append(shelf(), stocked("felt", 1, 1)), nil, api.ErrCycle},
	} {
		names, cents, e := restore.Cheapest(c.l, c.s, c.want)
		if wantOnly(t, c.what, names, e, c.e); cents != 0 {
			t.Error(c.what, cents)
		}
	}
}

// P8.3, P8.10: random tasks against all of their sets.
func TestCheapest(t *testing.T) {
	r := dice()
	for range 200 {
		l, s := randomTasks(r, from(r, 0, 7)), randomShelf(r)
		want := some(r, some(r, namesOf(l)))
		best := cheapestOf(l, s, want)
		wantCheapest(t, "random tasks", l, s, want, costOf(l, s, best), best...)
		fewer := some(r, want)
		_, less, e := restore.Cheapest(l, s, fewer)
		if e != api.OK || less > costOf(l, s, best) {
			t.Fatal("more wanted tasks cost less:", l, s, want, fewer)
		}
		set := some(r, namesOf(l))
		cents, e := restore.Cost(l, s, set)
		wantNumber(t, "Cost", cents, e, costOf(l, s, set))
	}
}

// P8.10: the cost of a set is that of its tasks' prices, and of PartsOf by the prices of the stock.
func TestCostsOfParts(t *testing.T) {
	r := dice()
	for range 200 {
		l, s := randomTasks(r, from(r, 0, 12)), randomShelf(r)
		set := some(r, namesOf(l))
		parts, e := restore.PartsOf(l, set)
		wantErr(t, "PartsOf", e, api.OK)
		sum := 0
		for _, x := range in(l, set) {
			sum += x.Cents
		}
		for _, p := range parts {
			sum += p.Count * priceOf(s, p.Part)
		}
		cents, e := restore.Cost(l, s, set)
		wantNumber(t, "Cost", cents, e, sum)
	}
}

// P8.3: what findings ask for, each task once.
func TestEstimate(t *testing.T) {
	for _, c := range []struct {
		what  string
		f     []api.Finding
		cents int
		names []string
	}{
		{"two findings", []api.Finding{finding("a", "tune", "clean"), finding("b", "clean")}, 13000, []string{"clean", "open", "patch", "tune"}},
		{"no findings", nil, 0, nil},
		{"findings without tasks", []api.Finding{finding("a"), finding("b")}, 0, nil},
		{"one that does not ascend", []api.Finding{finding("b", "tune", "renew", "open")}, 14500, []string{"open", "renew", "tune"}},
		{"apart", []api.Finding{finding("x", "renew"), finding("a", "clean")}, 12500, []string{"clean", "open", "renew"}},
	} {
		names, cents, e := restore.Estimate(works(), shelf(), c.f)
		wantList(t, c.what, names, e, c.names...)
		wantNumber(t, c.what, cents, e, c.cents)
	}
	many := append(works(), tasks(10)...)
	for _, c := range []struct {
		what string
		l    []api.Task
		s    []api.Stocked
		f    []api.Finding
		want api.Errno
	}{
		{"15 tasks", many, shelf(), []api.Finding{finding("a", "tune")}, api.ErrLarge},
		{"no such part", works(), nil, []api.Finding{finding("a", "open")}, api.ErrMissing},
		{"a part ahead of 15 tasks", many, nil, nil, api.ErrMissing},
		{"a stock", works(), append(shelf(), stocked("", 1, 1)), nil, api.ErrName},
		{"a stock ahead of a part", works(), stock(61), nil, api.ErrLarge},
		{"a finding ahead of a stock", works(), stock(61), []api.Finding{finding("a", "open", "open")}, api.ErrExists},
		{"no such task, ahead of a stock", works(), stock(61), []api.Finding{finding("a", "paint")}, api.ErrMissing},
		{"tasks ahead of a finding", badTasks()[api.ErrCycle], stock(61), []api.Finding{finding("")}, api.ErrCycle},
	} {
		names, cents, e := restore.Estimate(c.l, c.s, c.f)
		if wantOnly(t, c.what, names, e, c.want); cents != 0 {
			t.Error(c.what, cents)
		}
	}
	r := dice()
	for range 100 {
		l, s := randomTasks(r, from(r, 0, 7)), randomShelf(r)
		a, b := some(r, namesOf(l)), some(r, namesOf(l))
		f := []api.Finding{finding("a", shuffled(r, a)...), finding("b", shuffled(r, b)...)}
		want := append(slices.Clone(a), b...)
		slices.Sort(want)
		names, cents, e := restore.Estimate(l, s, f)
		best := cheapestOf(l, s, want)
		wantList(t, "random findings", names, e, best...)
		wantNumber(t, "random findings", cents, e, costOf(l, s, best))
	}
}
