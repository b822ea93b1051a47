package restore

import (
	"cmp"
	"slices"

	"agraffe/api"
	"agraffe/sets"
)

// priced are works with the prices of parts: priceOf returns that of a part, and whether the stock has the part.
type priced struct {
	works
	priceOf func(part string) (int, bool)
}

// pricedOf is for functions with tasks and a stock.
func pricedOf(t []api.Task, s []api.Stocked) (priced, api.Errno) {
	w, e := worksOf(t)
	if e != api.OK {
		return priced{}, e
	}
	if e := CheckStock(s); e != api.OK {
		return priced{}, e
	}
	return priced{works: w, priceOf: pricesOf(s)}, api.OK
}

// costs returns what each task costs with its parts; of tasks that are not in the set it is 0.
func (x priced) costs(set sets.Set) ([]int, api.Errno) {
	costs := make([]int, len(x.tasks))
	for n := range set.All() {
		costs[n] = x.tasks[n].Cents
		for _, p := range x.tasks[n].Parts {
			price, found := x.priceOf(p.Part)
			if !found {
				return nil, api.ErrMissing
			}
			costs[n] += p.Count * price
		}
	}
	return costs, api.OK
}

// sumOf adds up the numbers of a list whose places are in a set.
func sumOf(l []int, set sets.Set) int {
	sum := 0
	for n := range set.All() {
		sum += l[n]
	}
	return sum
}

// Cost returns the cost of a set (P8.3).
func Cost(t []api.Task, s []api.Stocked, set []string) (int, api.Errno) {
	x, e := pricedOf(t, s)
	if e != api.OK {
		return 0, e
	}
	chosen, e := x.setOf(set)
	if e != api.OK {
		return 0, e
	}
	costs, e := x.costs(chosen)
	if e != api.OK {
		return 0, e
	}
	return sumOf(costs, chosen), api.OK
}

// Cheapest returns the closed set with the least cost that contains a set, and its cost (P8.3).
func Cheapest(t []api.Task, s []api.Stocked, want []string) ([]string, int, api.Errno) {
	x, e := pricedOf(t, s)
	if e != api.OK {
		return nil, 0, e
	}
	wanted, e := x.setOf(want)
	if e != api.OK {
		return nil, 0, e
	}
	costs, e := x.costs(x.all())
	if e != api.OK {
		return nil, 0, e
	}
	if len(t) > api.MaxFewTasks {
		return nil, 0, api.ErrLarge
	}
	best := x.cheapest(wanted, costs)
	return x.names(best), sumOf(costs, best), api.OK
}

// cheapest tries all sets, by their numbers. The last one is that of all tasks: this is closed, so that there is always
// one to begin with.
func (w works) cheapest(want sets.Set, costs []int) sets.Set {
	best := w.all()
	for set := range w.all() {
		if w.closureError(want, set) == api.OK && w.compare(set, best, costs) < 0 {
			best = set
		}
	}
	return best
}

// compare compares sets by their costs, then by their numbers of tasks, then by their names.
func (w works) compare(a, b sets.Set, costs []int) int {
	if c := cmp.Or(cmp.Compare(sumOf(costs, a), sumOf(costs, b)), cmp.Compare(a.Size(), b.Size())); c != 0 {
		return c
	}
	return slices.Compare(w.names(a), w.names(b))
}

// Estimate returns the cheapest set for all tasks that findings ask for, and its cost (P8.3).
func Estimate(t []api.Task, s []api.Stocked, f []api.Finding) ([]string, int, api.Errno) {
	if e := CheckFindings(t, f); e != api.OK {
		return nil, 0, e
	}
	var want []string
	for _, x := range f {
		want = append(want, x.Tasks...)
	}
	slices.Sort(want)
	return Cheapest(t, s, slices.Compact(want))
}
