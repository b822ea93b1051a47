package restore

import (
	"maps"
	"slices"

	"agraffe/api"
)

// OrderOf returns the tasks of a set in its order (P8.4).
func OrderOf(t []api.Task, set []string) ([]string, api.Errno) {
	w, chosen, e := worksWith(t, set)
	if e != api.OK {
		return nil, e
	}
	var names []string
	for _, n := range w.order(chosen) {
		names = append(names, t[n].Name)
	}
	return names, api.OK
}

// Hours returns the sum of the hours of a set, and the greatest hours of one of its chains (P8.4).
func Hours(t []api.Task, set []string) (int, int, api.Errno) {
	w, chosen, e := worksWith(t, set)
	if e != api.OK {
		return 0, 0, e
	}
	sum, greatest := 0, 0
	longest := make([]int, len(t)) // of the chains from each task; 0 of tasks that are not in the set
	for _, n := range w.order(chosen) {
		for next := range w.leads[n].All() {
			longest[n] = max(longest[n], longest[next])
		}
		longest[n] += t[n].Hours
		greatest = max(greatest, longest[n])
		sum += t[n].Hours
	}
	return sum, greatest, api.OK
}

// PartsOf returns the parts of all tasks of a set, by their names (P8.4).
func PartsOf(t []api.Task, set []string) ([]api.PartCount, api.Errno) {
	_, chosen, e := worksWith(t, set)
	if e != api.OK {
		return nil, e
	}
	counts := make(map[string]int)
	for n := range chosen.All() {
		for _, p := range t[n].Parts {
			counts[p.Part] += p.Count
		}
	}
	var parts []api.PartCount
	for _, part := range slices.Sorted(maps.Keys(counts)) {
		parts = append(parts, api.PartCount{Part: part, Count: counts[part]})
	}
	return parts, api.OK
}
