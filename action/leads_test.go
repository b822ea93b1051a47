package action_test

import (
	"math"
	"slices"
	"testing"

	"agraffe/action"
	"agraffe/api"
)

func lead(weight, place int) api.Lead {
	return api.Lead{Weight: weight, Place: place}
}

// P4.8: the fewest holes, of several such sets the first one.
func TestChooseLeads(t *testing.T) {
	holes := []api.Lead{lead(20, 500), lead(140, 500), lead(100, 900), lead(140, 500)} // less 10, 70, 90, 70
	back := []api.Lead{lead(10, 1000), lead(10, -1000), lead(20, -1000)}
	full := changed(upright(), func(a *api.Action) { a.Leads = leads(8) })
	seven := changed(upright(), func(a *api.Action) { a.Leads = leads(7) })
	for _, c := range []struct {
		what     string
		a        api.Action
		holes    []api.Lead
		down, up int
		want     []int
		err      api.Errno
	}{
		{"none are needed", upright(), holes, 260, 140, nil, api.OK},
		{"no holes", upright(), nil, 260, 140, nil, api.OK},
		{"no holes, and one is needed", upright(), nil, 259, 139, nil, api.ErrNone},
		{"one", upright(), holes, 195, 60, []int{1}, api.OK},
		{"the first one of several", upright(), holes, 250, 50, []int{0}, api.OK},
		{"one of two that are alike", upright(), holes[1:], 190, 70, []int{0}, api.OK},
		{"one with much", upright(), holes, 175, 40, []int{2}, api.OK},
		{"two", upright(), holes, 181, 51, []int{0, 1}, api.OK},
		{"two later ones", upright(), holes, 120, 0, []int{1, 3}, api.OK},
		{"two, the last one of them", upright(), holes, 110, -20, []int{1, 2}, api.OK},
		{"three", upright(), holes, 90, -30, []int{0, 1, 2}, api.OK},
		{"all", upright(), holes, 20, -100, []int{0, 1, 2, 3}, api.OK},
		{"more than all", upright(), holes, 19, -200, nil, api.ErrNone},
		{"never at once", upright(), holes, 200, 141, nil, api.ErrNone},
		{"a lead that adds", upright(), back, 280, 150, []int{1}, api.OK},
		{"leads there and back", upright(), back, 270, 150, []int{1}, api.OK},
		{"full", full, holes, 260, 139, nil, api.OK},
		{"full, and one is needed", full, holes, 255, 100, nil, api.ErrNone},
		{"room for one", seven, holes, 200, 50, []int{1}, api.OK},
		{"room for one, and two are needed", seven, holes, 181, 51, nil, api.ErrNone},
		{"8 holes", upright(), slices.Repeat([]api.Lead{lead(10, 1000)}, 8), 180, 60, []int{0, 1, 2, 3, 4, 5, 6, 7}, api.OK},
		{"5 of 8 holes", upright(), slices.Repeat([]api.Lead{lead(10, 1000)}, 8), 210, 60, []int{0, 1, 2, 3, 4}, api.OK},
	} {
		l, e := action.ChooseLeads(c.a, c.holes, api.TouchWindow{Down: c.down, Up: c.up})
		if !slices.Equal(l, c.want) || e != c.err {
			t.Errorf("%s: %v, error %d, want %v, error %d", c.what, l, e, c.want, c.err)
		}
	}
}

// P4.8: errors in order.
func TestChooseLeadsErrors(t *testing.T) {
	wide := api.TouchWindow{Down: 100000, Up: -100000}
	for _, c := range []struct {
		what  string
		a     api.Action
		holes []api.Lead
		w     api.TouchWindow
		want  api.Errno
	}{
		{"9 holes", upright(), leads(9), wide, api.ErrLarge},
		{"9 wrong holes", upright(), make([]api.Lead, 9), wide, api.ErrLarge},
		{"the greatest holes", upright(), []api.Lead{lead(5000, 1000), lead(1, -1000)}, wide, api.OK},
		{"a hole without weight", upright(), []api.Lead{lead(1, 1), lead(0, 0)}, wide, api.ErrRange},
		{"a heavy hole", upright(), []api.Lead{lead(5001, 0)}, wide, api.ErrRange},
		{"a hole too far out", upright(), []api.Lead{lead(1, 1001)}, wide, api.ErrRange},
		{"a hole too far behind", upright(), []api.Lead{lead(1, -1001)}, wide, api.ErrRange},
		{"a hole at the least int", upright(), []api.Lead{lead(1, math.MinInt)}, wide, api.ErrRange},
		{"Down", upright(), nil, api.TouchWindow{Down: 100001, Up: -100000}, api.ErrRange},
		{"Up", upright(), nil, api.TouchWindow{Down: 100000, Up: -100001}, api.ErrRange},
		{"holes ahead of the window", upright(), leads(9), api.TouchWindow{Down: 100001}, api.ErrLarge},
		{"the window ahead of what is large", tooLarge(), nil, api.TouchWindow{Down: 100001}, api.ErrRange},
		{"what is large ahead of none", tooLarge(), nil, api.TouchWindow{}, api.ErrLarge},
		{"what is large, though a lead would help", weighted([6]int{2: 1}, [6]int{}, lead(3, 1000)), []api.Lead{lead(3, -1000)}, wide, api.ErrLarge},
		{"a touch that is large", weighted([6]int{2: 1}, [6]int{2: 1}), []api.Lead{lead(1, 1000)}, wide, api.ErrLarge},
		{"none", upright(), leads(8), api.TouchWindow{}, api.ErrNone},
	} {
		l, e := action.ChooseLeads(c.a, c.holes, c.w)
		if wantErr(t, c.what, e, c.want); len(l) > 0 {
			t.Errorf("%s: %v", c.what, l)
		}
	}
}

// P4.8: sets that are too large are left out, also where a later lead would bring them back; the balance is about 0.98.
func TestLargeSetsAreLeftOut(t *testing.T) {
	a := weighted([6]int{2: 1}, [6]int{})
	for _, c := range []struct {
		what     string
		holes    []api.Lead
		down, up int
		want     []int
		err      api.Errno
	}{
		{"too much", []api.Lead{lead(3, 1000)}, -2, -3, nil, api.ErrNone},
		{"too much, and then enough", []api.Lead{lead(3, 1000), lead(2, 1000)}, -1, -3, []int{1}, api.OK},
		{"enough", []api.Lead{lead(1, 1000), lead(2, 1000)}, -1, -3, []int{1}, api.OK},
		{"too fine", []api.Lead{lead(1, 1)}, 0, 0, nil, api.ErrNone},
		{"there and back", []api.Lead{lead(2, 1000), lead(1, -1000)}, 0, -1, []int{0, 1}, api.OK},
		{"too far, and back", []api.Lead{lead(3, 1000), lead(2, -1000)}, 0, -1, nil, api.ErrNone},
		{"too far the other way, and back", []api.Lead{lead(1, -1000), lead(2, 1000)}, 0, -1, nil, api.ErrNone},
		{"behind what is too far", []api.Lead{lead(3, 1000), lead(3, -1000), lead(2, 1000), lead(1, -1000)}, 0, -1, []int{2, 3}, api.OK},
	} {
		l, e := action.ChooseLeads(a, c.holes, api.TouchWindow{Down: c.down, Up: c.up})
		if !slices.Equal(l, c.want) || e != c.err {
			t.Errorf("%s: %v, error %d, want %v, error %d", c.what, l, e, c.want, c.err)
		}
	}
}

// cheapestSet tries all sets, as the leads of actions of their own.
func cheapestSet(a api.Action, holes []api.Lead, w api.TouchWindow) ([]int, api.Errno) {
	if _, e := action.Touch(a, frac(0, 1)); e != api.OK {
		return nil, e
	}
	var best []int
	found := false
	for mask := range 1 << len(holes) {
		x := a
		x.Leads = slices.Clone(a.Leads)
		var l []int
		for n := range holes {
			if mask>>n&1 == 1 {
				l = append(l, n)
				x.Leads = append(x.Leads, holes[n])
			}
		}
		if len(x.Leads) > 8 || action.CheckTouch(x, w, frac(0, 1)) != api.OK {
			continue
		}
		if !found || len(l) < len(best) || len(l) == len(best) && slices.Compare(l, best) < 0 {
			best, found = l, true
		}
	}
	if !found {
		return nil, api.ErrNone
	}
	return best, api.OK
}

// P4.8: chosen leads against all sets.
func TestChooseLeadsAtRandom(t *testing.T) {
	r := dice()
	count := map[api.Errno]int{}
	sizes := map[int]int{}
	for range 1500 {
		a := randomAction(r, 30)
		if r.IntN(4) == 0 {
			a = weighted([6]int{2: 1, 4: r.IntN(2)}, [6]int{2: r.IntN(2)})
		}
		var holes []api.Lead
		for range r.IntN(7) {
			holes = append(holes, lead(from(r, 1, 30), 100*from(r, -3, 10)))
		}
		var w api.TouchWindow
		if touch, e := action.Touch(a, frac(0, 1)); e == api.OK {
			w = api.TouchWindow{Down: touch[0].Num/touch[0].Den - from(r, -1, 60), Up: touch[1].Num/touch[1].Den - from(r, 0, 90)}
		}
		want, err := cheapestSet(a, holes, w)
		l, e := action.ChooseLeads(a, holes, w)
		if !slices.Equal(l, want) || e != err {
			t.Fatal(a, holes, w, l, e, want, err)
		}
		if count[e]++; e == api.OK {
			sizes[len(l)]++
		}
	}
	if count[api.OK] < 100 || count[api.ErrNone] < 100 || count[api.ErrLarge] < 30 || sizes[1] < 50 || sizes[2] < 50 || sizes[3] < 20 {
		t.Error(count, sizes)
	}
}
