package restore_test

import (
	"math"
	"slices"
	"strings"
	"testing"

	"agraffe/api"
	"agraffe/restore"
)

type taskCase struct {
	what   string
	change func(l []api.Task)
	want   api.Errno
}

func checkTasks(t *testing.T, l []taskCase) {
	t.Helper()
	for _, c := range l {
		wantErr(t, c.what, restore.CheckTasks(changed(c.change)), c.want)
	}
}

// P8.1: names, prices and hours of tasks, and the order of their errors.
func TestTasks(t *testing.T) {
	checkTasks(t, []taskCase{
		{"the example", func(l []api.Task) {}, api.OK},
		{"no name", func(l []api.Task) { l[4].Name = "" }, api.ErrName},
		{"a digit ahead", func(l []api.Task) { l[4].Name = "1a" }, api.ErrName},
		{"a blank", func(l []api.Task) { l[4].Name = "a b" }, api.ErrName},
		{"12 letters", func(l []api.Task) { l[4].Name = strings.Repeat("x", 12) }, api.OK},
		{"13 letters", func(l []api.Task) { l[4].Name = strings.Repeat("x", 13) }, api.ErrName},
		{"the name of a part", func(l []api.Task) { l[4].Name = "felt" }, api.OK},
		{"a name twice", func(l []api.Task) { l[4].Name = "open" }, api.ErrExists},
		{"the name ahead twice", func(l []api.Task) { l[4].Name = "renew" }, api.ErrExists},
		{"no name twice", func(l []api.Task) { l[3].Name, l[4].Name = "", "" }, api.ErrName},
		{"no name, ahead of a price", func(l []api.Task) { l[4] = api.Task{Cents: -1} }, api.ErrName},
		{"a name twice, ahead of a price", func(l []api.Task) { l[4] = api.Task{Name: "open", Cents: -1} }, api.ErrExists},
		{"a price ahead of a later name", func(l []api.Task) { l[2].Cents, l[3].Name = -1, "" }, api.ErrRange},
		{"a price ahead of a later name that exists", func(l []api.Task) { l[2].Cents, l[3].Name = -1, "open" }, api.ErrRange},
		{"nothing to pay or to do", func(l []api.Task) { l[2].Cents, l[2].Hours = 0, 0 }, api.OK},
		{"the greatest numbers", func(l []api.Task) { l[2].Cents, l[2].Hours = 1000000000, 10000 }, api.OK},
		{"a price above", func(l []api.Task) { l[2].Cents = 1000000001 }, api.ErrRange},
		{"a price below", func(l []api.Task) { l[2].Cents = -1 }, api.ErrRange},
		{"hours above", func(l []api.Task) { l[2].Hours = 10001 }, api.ErrRange},
		{"hours below", func(l []api.Task) { l[2].Hours = -1 }, api.ErrRange},
		{"the least int", func(l []api.Task) { l[2].Hours = math.MinInt }, api.ErrRange},
		{"a price ahead of too many needs", func(l []api.Task) { l[2].Cents, l[2].Needs = -1, make([]string, 11) }, api.ErrRange},
		{"hours ahead of too many needs", func(l []api.Task) { l[2].Hours, l[2].Needs = -1, make([]string, 11) }, api.ErrRange},
		{"too many needs ahead of a later price", func(l []api.Task) { l[2].Needs, l[3].Cents = make([]string, 11), -1 }, api.ErrLarge},
		{"a need ahead of a later price", func(l []api.Task) { l[2].Needs, l[3].Cents = []string{"x"}, -1 }, api.ErrMissing},
		{"a part ahead of a later name", func(l []api.Task) { l[2].Parts[0].Count, l[3].Name = 0, "" }, api.ErrRange},
	})
	for count, want := range map[int]api.Errno{0: api.OK, 1: api.OK, 60: api.OK, 61: api.ErrLarge, 1000: api.ErrLarge} {
		wantErr(t, "so many tasks", restore.CheckTasks(tasks(count)), want)
		wantErr(t, "so many tasks without names", restore.CheckTasks(make([]api.Task, count)), map[bool]api.Errno{true: want, false: api.ErrName}[count == 0 || count > 60])
	}
}

// P8.1: at most 10 needs, 6 groups of 6 tasks, and 10 parts.
func TestLargeTasks(t *testing.T) {
	last := func(change func(t *api.Task)) []api.Task {
		l := tasks(40)
		change(&l[39])
		return l
	}
	groups := func(count, size int) [][]string {
		return slices.Repeat([][]string{numbered("t", size)}, count)
	}
	for _, c := range []struct {
		what   string
		change func(t *api.Task)
		want   api.Errno
	}{
		{"10 needs", func(t *api.Task) { t.Needs = numbered("t", 10) }, api.OK},
		{"11 needs", func(t *api.Task) { t.Needs = numbered("t", 11) }, api.ErrLarge},
		{"6 groups of 6 tasks", func(t *api.Task) { t.OneOf = groups(6, 6) }, api.OK},
		{"7 groups", func(t *api.Task) { t.OneOf = groups(7, 1) }, api.ErrLarge},
		{"a group of 7 tasks", func(t *api.Task) { t.OneOf = groups(1, 7) }, api.ErrLarge},
		{"a group of 7 tasks behind others", func(t *api.Task) { t.OneOf = append(groups(2, 1), groups(1, 7)...) }, api.ErrLarge},
		{"10 parts", func(t *api.Task) { t.Parts = parts(10) }, api.OK},
		{"11 parts", func(t *api.Task) { t.Parts = parts(11) }, api.ErrLarge},
		{"all of it", func(t *api.Task) { t.Needs, t.OneOf, t.Parts = numbered("t", 10), groups(6, 6), parts(10) }, api.OK},
		{"11 needs that are missing", func(t *api.Task) { t.Needs = make([]string, 11) }, api.ErrLarge},
		{"7 empty groups", func(t *api.Task) { t.OneOf = groups(7, 0) }, api.ErrLarge},
		{"11 parts without names", func(t *api.Task) { t.Parts = make([]api.PartCount, 11) }, api.ErrLarge},
		{"7 groups ahead of a need", func(t *api.Task) { t.Needs, t.OneOf = []string{"x"}, groups(7, 1) }, api.ErrLarge},
		{"a group of 7 tasks ahead of a need", func(t *api.Task) { t.Needs, t.OneOf = []string{"x"}, groups(1, 7) }, api.ErrLarge},
		{"a group of 7 tasks ahead of an empty one", func(t *api.Task) { t.OneOf = [][]string{{}, make([]string, 7)} }, api.ErrLarge},
		{"11 parts ahead of a need", func(t *api.Task) { t.Needs, t.Parts = []string{"x"}, parts(11) }, api.ErrLarge},
		{"11 parts ahead of a group", func(t *api.Task) { t.OneOf, t.Parts = groups(1, 0), parts(11) }, api.ErrLarge},
	} {
		wantErr(t, c.what, restore.CheckTasks(last(c.change)), c.want)
	}
}

// P8.1: needs, groups and parts, and the order of their errors.
func TestNeedsGroupsAndParts(t *testing.T) {
	needs := func(names ...string) func(l []api.Task) {
		return func(l []api.Task) { l[4].Needs = names }
	}
	groups := func(groups ...[]string) func(l []api.Task) {
		return func(l []api.Task) { l[4].OneOf = groups }
	}
	takes := func(parts ...api.PartCount) func(l []api.Task) {
		return func(l []api.Task) { l[4].Parts = parts }
	}
	checkTasks(t, []taskCase{
		{"needs of earlier tasks", needs("renew", "open"), api.OK},
		{"a need of a later task", func(l []api.Task) { l[1].Needs = []string{"renew"} }, api.OK},
		{"no such need", needs("open", "paint"), api.ErrMissing},
		{"an empty need", needs(""), api.ErrMissing},
		{"a part as a need", needs("felt"), api.ErrMissing},
		{"a need twice", needs("open", "clean", "open"), api.ErrExists},
		{"no such need twice", needs("x", "x"), api.ErrMissing},
		{"a need twice ahead of no such need", needs("open", "open", "x"), api.ErrExists},
		{"no such need ahead of a need twice", needs("open", "x", "open"), api.ErrMissing},
		{"a need ahead of a group", func(l []api.Task) { l[4].Needs, l[4].OneOf = []string{"x"}, [][]string{{}} }, api.ErrMissing},
		{"a need twice ahead of a group", func(l []api.Task) { l[4].Needs, l[4].OneOf = []string{"open", "open"}, [][]string{{}} }, api.ErrExists},
		{"no groups", groups(), api.OK},
		{"a group of one", groups([]string{"open"}), api.OK},
		{"an empty group", groups([]string{}), api.ErrShape},
		{"no group", groups([]string{"open"}, nil), api.ErrShape},
		{"no such task in a group", groups([]string{"open", "x"}), api.ErrMissing},
		{"a task twice in a group", groups([]string{"open", "clean", "open"}), api.ErrExists},
		{"a task twice in a group ahead of no such task", groups([]string{"open", "open", "x"}), api.ErrExists},
		{"a task in two groups", groups([]string{"open"}, []string{"clean", "open"}), api.OK},
		{"a group twice", groups([]string{"open"}, []string{"open"}), api.OK},
		{"an empty group ahead of a wrong one", groups(nil, []string{"x"}), api.ErrShape},
		{"a wrong group ahead of an empty one", groups([]string{"x"}, nil), api.ErrMissing},
		{"a task that is needed besides", func(l []api.Task) { l[4].Needs = []string{"patch"} }, api.OK},
		{"a group ahead of a part", func(l []api.Task) { l[4].OneOf, l[4].Parts = [][]string{{"x"}}, []api.PartCount{{}} }, api.ErrMissing},
		{"an empty group ahead of a part", func(l []api.Task) { l[4].OneOf, l[4].Parts = [][]string{{}}, []api.PartCount{{}} }, api.ErrShape},
		{"parts", takes(part("wire", 1), part("felt", 1000)), api.OK},
		{"a part with a task's name", takes(part("open", 1)), api.OK},
		{"a part without a name", takes(part("", 1)), api.ErrName},
		{"a part without a name, ahead of its count", takes(part("", 0)), api.ErrName},
		{"a part twice", takes(part("wire", 1), part("felt", 1), part("wire", 1)), api.ErrExists},
		{"a part twice, ahead of its count", takes(part("wire", 1), part("wire", 0)), api.ErrExists},
		{"a count ahead of a later name", takes(part("wire", 0), part("", 1)), api.ErrRange},
		{"a count of 0", takes(part("wire", 0)), api.ErrRange},
		{"a count of 1001", takes(part("wire", 1001)), api.ErrRange},
		{"a count below 0", takes(part("wire", -1)), api.ErrRange},
	})
}

// P8.1: circles, which come last.
func TestCircles(t *testing.T) {
	leads := func(n int, names ...string) func(l []api.Task) {
		return func(l []api.Task) { l[n].Needs = names }
	}
	checkTasks(t, []taskCase{
		{"a task that needs itself", leads(0, "open"), api.ErrCycle},
		{"a task in its own group", func(l []api.Task) { l[4].OneOf = [][]string{{"open", "tune"}} }, api.ErrCycle},
		{"two tasks", leads(0, "clean"), api.ErrCycle},
		{"by a need and a group", leads(2, "tune"), api.ErrCycle},
		{"by the other one of a group", leads(3, "tune"), api.ErrCycle},
		{"all around", leads(0, "tune"), api.ErrCycle},
		{"by two groups", func(l []api.Task) { l[0].OneOf = [][]string{{"tune"}} }, api.ErrCycle},
		{"a way around", leads(4, "open", "clean", "patch", "renew"), api.OK},
		{"a circle ahead of a part", func(l []api.Task) { l[0].Needs, l[4].Parts = []string{"open"}, []api.PartCount{part("wire", 0)} }, api.ErrRange},
		{"a circle ahead of a name", func(l []api.Task) { l[0].Needs, l[4].Name = []string{"open"}, "" }, api.ErrName},
		{"a circle ahead of a group", func(l []api.Task) { l[0].Needs, l[4].OneOf = []string{"open"}, [][]string{nil} }, api.ErrShape},
	})
	r := dice()
	for range 300 {
		l := tasks(from(r, 1, 7))
		for n := range l {
			l[n].Needs = some(r, some(r, namesOf(l)))
			if group := some(r, some(r, namesOf(l))); len(group) > 0 && len(group) <= 6 {
				l[n].OneOf = [][]string{group}
			}
		}
		want := map[bool]api.Errno{true: api.ErrCycle, false: api.OK}[hasCircle(l)]
		wantErr(t, "random tasks", restore.CheckTasks(l), want)
	}
	long := tasks(60)
	for n := range long {
		long[n].Needs = []string{long[(n+1)%60].Name}
	}
	wantErr(t, "60 tasks in a circle", restore.CheckTasks(long), api.ErrCycle)
	long[37].Needs = nil
	wantErr(t, "60 tasks in a chain", restore.CheckTasks(long), api.OK)
}

// hasCircle follows all ways for as many steps as there are tasks: only in a circle does one go that far.
func hasCircle(l []api.Task) bool {
	at := namesOf(l)
	for range l {
		var next []string
		for _, x := range in(l, at) {
			next = append(next, leadsTo(x)...)
		}
		at = next
	}
	return len(at) > 0
}

// P8.1: stocks.
func TestStock(t *testing.T) {
	for _, c := range []struct {
		what string
		l    []api.Stocked
		want api.Errno
	}{
		{"the example", shelf(), api.OK},
		{"60 parts", stock(60), api.OK},
		{"61 parts", stock(61), api.ErrLarge},
		{"61 parts without names", make([]api.Stocked, 61), api.ErrLarge},
		{"no name", []api.Stocked{stocked("", 1, 1)}, api.ErrName},
		{"no name, ahead of a price", []api.Stocked{stocked("-a", -1, 1)}, api.ErrName},
		{"a part twice", append(stock(3), stocked("p0", 1, 1)), api.ErrExists},
		{"a part twice, ahead of a price", append(stock(3), stocked("p0", -1, 1)), api.ErrExists},
		{"a price ahead of a later name", []api.Stocked{stocked("a", -1, 1), stocked("", 1, 1)}, api.ErrRange},
		{"nothing", []api.Stocked{stocked("a", 0, 0)}, api.OK},
		{"the greatest numbers", []api.Stocked{stocked("a", 1000000000, 10000)}, api.OK},
		{"a price above", []api.Stocked{stocked("a", 1000000001, 1)}, api.ErrRange},
		{"a price below", []api.Stocked{stocked("a", -1, 1)}, api.ErrRange},
		{"a count above", []api.Stocked{stocked("a", 1, 10001)}, api.ErrRange},
		{"a count below", []api.Stocked{stocked("a", 1, -1)}, api.ErrRange},
	} {
		wantErr(t, c.what, restore.CheckStock(c.l), c.want)
	}
}

// P8.1: findings.
func TestFindings(t *testing.T) {
	var many []api.Finding
	for _, name := range numbered("f", 41) {
		many = append(many, finding(name, "t3"))
	}
	for _, c := range []struct {
		what string
		l    []api.Finding
		want api.Errno
	}{
		{"40 findings", many[:40], api.OK},
		{"41 findings", many, api.ErrLarge},
		{"41 findings without names", make([]api.Finding, 41), api.ErrLarge},
		{"no name", []api.Finding{finding("")}, api.ErrName},
		{"no name, ahead of too many tasks", []api.Finding{finding("", make([]string, 21)...)}, api.ErrName},
		{"a name twice", []api.Finding{finding("a", "t1"), finding("b"), finding("a", "t2")}, api.ErrExists},
		{"a name twice, ahead of too many tasks", []api.Finding{finding("a"), finding("a", make([]string, 21)...)}, api.ErrExists},
		{"no tasks", []api.Finding{finding("a")}, api.OK},
		{"20 tasks", []api.Finding{finding("a", numbered("t", 20)...)}, api.OK},
		{"21 tasks", []api.Finding{finding("a", numbered("t", 21)...)}, api.ErrLarge},
		{"21 tasks that are missing", []api.Finding{finding("a", make([]string, 21)...)}, api.ErrLarge},
		{"no such task", []api.Finding{finding("a", "t1", "paint")}, api.ErrMissing},
		{"a task twice", []api.Finding{finding("a", "t1", "t0", "t1")}, api.ErrExists},
		{"a task twice, ahead of no such task", []api.Finding{finding("a", "t1", "t1", "x")}, api.ErrExists},
		{"no such task, ahead of a later name", []api.Finding{finding("a", "x"), finding("")}, api.ErrMissing},
		{"a task of two findings", []api.Finding{finding("a", "t1", "t0"), finding("b", "t1")}, api.OK},
		{"tasks in any order", []api.Finding{finding("a", "t9", "t1", "t30")}, api.OK},
	} {
		wantErr(t, c.what, restore.CheckFindings(tasks(40), c.l), c.want)
	}
	for want, l := range badTasks() {
		wantErr(t, "findings of wrong tasks", restore.CheckFindings(l, many), want)
	}
}
