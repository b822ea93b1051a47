package restore_test

import (
	"math"
	"math/rand/v2"
	"slices"
	"strconv"
	"testing"

	"agraffe/api"
)

// extremes are the numbers at which arithmetic with ints goes wrong first.
var extremes = []int{
	math.MinInt, math.MinInt + 1, -1000000001, -1, 0, 1, 2, 63, 64, 900, 1001, 10001,
	1000001, 1000000000, 1000000001, 1000000000001, math.MaxInt - 1, math.MaxInt,
}

// dice are the same ones in each run.
func dice() *rand.Rand {
	return rand.New(rand.NewPCG(17, 18))
}

func from(r *rand.Rand, low, high int) int {
	return low + r.IntN(high-low+1)
}

func part(name string, count int) api.PartCount {
	return api.PartCount{Part: name, Count: count}
}

func stocked(name string, cents, count int) api.Stocked {
	return api.Stocked{Part: name, Cents: cents, Count: count}
}

func promise(instrument, part string, count int) api.PartPromise {
	return api.PartPromise{Instrument: instrument, Part: part, Count: count}
}

func finding(name string, tasks ...string) api.Finding {
	return api.Finding{Name: name, Tasks: tasks}
}

// works is the tasks of the chapter's examples.
func works() []api.Task {
	return []api.Task{
		{Name: "open", Cents: 1000, Hours: 2},
		{Name: "clean", Cents: 2000, Hours: 3, Needs: []string{"open"}},
		{Name: "patch", Cents: 5000, Hours: 8, Needs: []string{"clean"}, Parts: []api.PartCount{part("felt", 2)}},
		{Name: "renew", Cents: 9000, Hours: 5, Needs: []string{"open"}, Parts: []api.PartCount{part("felt", 1)}},
		{Name: "tune", Cents: 4000, Hours: 4, OneOf: [][]string{{"patch", "renew"}}},
	}
}

// shelf is the stock of the chapter's examples.
func shelf() []api.Stocked {
	return []api.Stocked{stocked("felt", 500, 5)}
}

// changed returns the works, changed.
func changed(change func(l []api.Task)) []api.Task {
	l := works()
	change(l)
	return l
}

// numbered are so many names, each of them with a number behind a letter.
func numbered(letter string, count int) []string {
	var names []string
	for n := range count {
		names = append(names, letter+strconv.Itoa(n))
	}
	return names
}

// tasks are so many, which cost nothing and lead to none.
func tasks(count int) []api.Task {
	var l []api.Task
	for _, name := range numbered("t", count) {
		l = append(l, api.Task{Name: name})
	}
	return l
}

// stock is so many parts, which cost nothing.
func stock(count int) []api.Stocked {
	var l []api.Stocked
	for _, name := range numbered("p", count) {
		l = append(l, stocked(name, 0, 1))
	}
	return l
}

// parts are one piece each of so many.
func parts(count int) []api.PartCount {
	var l []api.PartCount
	for _, name := range numbered("p", count) {
		l = append(l, part(name, 1))
	}
	return l
}

// some are elements of a list in its order, each with the same chance.
func some[T any](r *rand.Rand, l []T) []T {
	var chosen []T
	for _, x := range l {
		if r.IntN(2) == 0 {
			chosen = append(chosen, x)
		}
	}
	return chosen
}

// shuffled is a list in any order.
func shuffled[T any](r *rand.Rand, l []T) []T {
	var mixed []T
	for _, n := range r.Perm(len(l)) {
		mixed = append(mixed, l[n])
	}
	return mixed
}

// randomTasks have names that do not ascend, and lead to each other in no circle: each one leads to tasks that a random
// order has ahead of it. They cost little, so that many sets cost the same.
func randomTasks(r *rand.Rand, count int) []api.Task {
	l := tasks(count)
	var ahead []string
	for n, place := range r.Perm(count) {
		l[n].Name = "t" + strconv.Itoa(place)
	}
	for _, n := range r.Perm(count) {
		t := &l[n]
		t.Cents, t.Hours = from(r, 0, 2), from(r, 0, 5)
		if len(ahead) > 0 {
			t.Needs = shuffled(r, ahead)[:r.IntN(min(len(ahead), 2)+1)]
			for range r.IntN(3) {
				t.OneOf = append(t.OneOf, shuffled(r, ahead)[:from(r, 1, min(len(ahead), 3))])
			}
		}
		if r.IntN(3) == 0 {
			t.Parts = shuffled(r, []api.PartCount{part("b", from(r, 1, 3)), part("a", 1), part("c", 1000)})[:from(r, 1, 2)]
		}
		ahead = append(ahead, t.Name)
	}
	return l
}

// randomShelf has the parts of randomTasks.
func randomShelf(r *rand.Rand) []api.Stocked {
	return []api.Stocked{stocked("c", from(r, 0, 1), 0), stocked("a", from(r, 0, 2), 5), stocked("b", from(r, 0, 2), 7)}
}

// namesOf are the names of tasks, ascending.
func namesOf(l []api.Task) []string {
	var names []string
	for _, t := range l {
		names = append(names, t.Name)
	}
	slices.Sort(names)
	return names
}

// allSets are all sets of ascending names.
func allSets(names []string) [][]string {
	all := [][]string{nil}
	for _, name := range names {
		for _, set := range all[:len(all):len(all)] {
			all = append(all, append(slices.Clone(set), name))
		}
	}
	return all
}

// in returns the tasks of a set, in the order of the list.
func in(l []api.Task, set []string) []api.Task {
	return slices.DeleteFunc(slices.Clone(l), func(t api.Task) bool { return !slices.Contains(set, t.Name) })
}

// leadsTo are the names of the tasks that a task leads to.
func leadsTo(t api.Task) []string {
	return slices.Concat(t.Needs, slices.Concat(t.OneOf...))
}

func isSubset(part, whole []string) bool {
	return !slices.ContainsFunc(part, func(name string) bool { return !slices.Contains(whole, name) })
}

func wantErr(t *testing.T, what string, got, want api.Errno) {
	t.Helper()
	if got != want {
		t.Errorf("%s: error %d, want %d", what, got, want)
	}
}

func wantNumber(t *testing.T, what string, got int, e api.Errno, want int) {
	t.Helper()
	if e != api.OK || got != want {
		t.Errorf("%s: %d, error %d, want %d", what, got, e, want)
	}
}

func wantList[T comparable](t *testing.T, what string, got []T, e api.Errno, want ...T) {
	t.Helper()
	if e != api.OK || !slices.Equal(got, want) {
		t.Errorf("%s: %v, error %d, want %v", what, got, e, want)
	}
}

// wantOnly is for results with an error, which has nothing beside it.
func wantOnly[T any](t *testing.T, what string, got []T, e, want api.Errno) {
	t.Helper()
	if e != want || want != api.OK && len(got) > 0 {
		t.Errorf("%s: %v, error %d, want error %d", what, got, e, want)
	}
}

// badTasks have each an error of its own.
func badTasks() map[api.Errno][]api.Task {
	return map[api.Errno][]api.Task{
		api.ErrLarge:   tasks(61),
		api.ErrName:    changed(func(l []api.Task) { l[4].Name = "" }),
		api.ErrExists:  changed(func(l []api.Task) { l[4].Name = "open" }),
		api.ErrRange:   changed(func(l []api.Task) { l[4].Cents = -1 }),
		api.ErrMissing: changed(func(l []api.Task) { l[4].Needs = []string{"paint"} }),
		api.ErrShape:   changed(func(l []api.Task) { l[4].OneOf = [][]string{{}} }),
		api.ErrCycle:   changed(func(l []api.Task) { l[0].Needs = []string{"tune"} }),
	}
}

// badStocks have each an error of its own.
func badStocks() map[api.Errno][]api.Stocked {
	return map[api.Errno][]api.Stocked{
		api.ErrLarge:  stock(61),
		api.ErrName:   append(shelf(), stocked("", 1, 1)),
		api.ErrExists: append(shelf(), stocked("felt", 1, 1)),
		api.ErrRange:  append(shelf(), stocked("wire", -1, 1)),
	}
}

// badSets of the works have each an error of its own.
func badSets() map[api.Errno][][]string {
	return map[api.Errno][][]string{
		api.ErrMissing: {{"paint"}, {""}, {"felt"}, {"tune", "open", "paint"}, {"open", "open", "Open"}},
		api.ErrOrder:   {{"tune", "open"}, {"open", "open"}, {"clean", "open", "open"}, {"clean", "tune", "renew"}},
	}
}
