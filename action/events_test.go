package action_test

import (
	"math"
	"math/big"
	"math/rand/v2"
	"slices"
	"strings"
	"testing"

	"agraffe/action"
	"agraffe/api"
)

// struck is the example with events at the dips 0, 2, 2, 900, 900, 950 and 1000, not in this order, and one that never happens.
func struck() api.Action {
	a := upright()
	a.Events = []api.ActionEvent{
		{Name: "let-off", Part: "hammer", Level: 4500},
		{Name: "end", Part: "wippen", Level: 500},
		{Name: "lift", Part: "wippen", Level: 1},
		{Name: "drop", Part: "hammer", Level: 4600},
		{Name: "ten", Part: "hammer", Level: 10},
		{Name: "rest", Part: "hammer", Level: 0, Falling: true},
		{Name: "half", Part: "wippen", Level: 450},
		{Name: "late", Part: "wippen", Level: 475},
	}
	return a
}

// P4.6: the example, events that fall, and events at the dip 0, at the full dip and beyond it.
func TestEventAt(t *testing.T) {
	a := struck()
	a.Parts = append(a.Parts,
		api.ActionPart{Name: "damper", Driver: "wippen", Curve: curve(200, 70, 450, 20)},
		api.ActionPart{Name: "wide", Curve: curve(-10, 0, 2000, 2010)},
	)
	a.Events = append(a.Events,
		api.ActionEvent{Name: "free", Part: "damper", Level: 20, Falling: true},
		api.ActionEvent{Name: "mute", Part: "damper", Level: 69, Falling: true},
		api.ActionEvent{Name: "high", Part: "damper", Level: 71},
		api.ActionEvent{Name: "low", Part: "damper", Level: 19, Falling: true},
		api.ActionEvent{Name: "before", Part: "wide", Level: 5},
		api.ActionEvent{Name: "beyond", Part: "wide", Level: 1011},
	)
	for _, c := range []struct {
		event string
		want  api.Frac
		err   api.Errno
	}{
		{"lift", frac(2, 1), api.OK}, {"let-off", frac(900, 1), api.OK}, {"end", frac(1000, 1), api.OK}, {"drop", api.Frac{}, api.ErrNone},
		{"ten", frac(2, 1), api.OK}, {"rest", frac(0, 1), api.OK}, {"half", frac(900, 1), api.OK}, {"late", frac(950, 1), api.OK},
		{"free", frac(900, 1), api.OK}, {"mute", frac(410, 1), api.OK}, {"high", api.Frac{}, api.ErrNone}, {"low", api.Frac{}, api.ErrNone},
		{"before", frac(0, 1), api.OK}, {"beyond", api.Frac{}, api.ErrNone},
		{"", api.Frac{}, api.ErrMissing}, {"hammer", api.Frac{}, api.ErrMissing}, {"Lift", api.Frac{}, api.ErrMissing},
	} {
		dip, e := action.EventAt(a, c.event)
		if dip != c.want || e != c.err {
			t.Errorf("EventAt of %q: %v, error %d, want %v, error %d", c.event, dip, e, c.want, c.err)
		}
		after, e := action.Aftertouch(a, c.event)
		want := api.Frac{}
		if c.err == api.OK {
			want = frac(1000-c.want.Num, 1)
		}
		if after != want || e != c.err {
			t.Errorf("Aftertouch of %q: %v, error %d, want %v, error %d", c.event, after, e, want, c.err)
		}
	}
}

// P4.6: ErrLarge of curves, of Reach, and of Aftertouch alone.
func TestEventsTooLarge(t *testing.T) {
	a := oblique()
	a.Events = append(a.Events, api.ActionEvent{Name: "four", Part: "c", Level: 2})
	for _, c := range []struct {
		event      string
		a          api.Action
		at         api.Frac
		err, after api.Errno
	}{
		{"start", a, frac(0, 1), api.OK, api.OK},
		{"one", a, frac(951629521, 936256169), api.OK, api.ErrLarge},
		{"two", a, frac(997*983, 991*977), api.OK, api.ErrLarge},
		{"four", a, api.Frac{}, api.ErrLarge, api.ErrLarge},
		{"first", tooLarge(), frac(0, 1), api.OK, api.OK},
		{"wrong", tooLarge(), api.Frac{}, api.ErrLarge, api.ErrLarge},
		{"never", tooLarge(), api.Frac{}, api.ErrNone, api.ErrNone},
	} {
		if x, e := action.EventAt(c.a, c.event); x != c.at || e != c.err {
			t.Errorf("EventAt of %s: %v, error %d, want %v, error %d", c.event, x, e, c.at, c.err)
		}
		x, e := action.Aftertouch(c.a, c.event)
		if e != c.after || e != api.OK && !isZero(x) || e == api.OK && x != frac(c.a.Dip, 1) {
			t.Errorf("Aftertouch of %s: %v, error %d, want error %d", c.event, x, e, c.after)
		}
	}
}

// P4.6: events by their dips, on equal dips by their numbers; ErrLarge of any event, also of one that is not asked for.
func TestOrderAndHappened(t *testing.T) {
	const all = "rest lift ten let-off half late end"
	if l, e := action.Order(struck()); strings.Join(l, " ") != all || e != api.OK {
		t.Error("Order:", l, e)
	}
	for _, c := range []struct {
		dip  api.Frac
		want string
	}{
		{frac(0, 1), "rest"}, {frac(1999, 1000), "rest"}, {frac(2, 1), "rest lift ten"}, {frac(1799, 2), "rest lift ten"},
		{frac(900, 1), "rest lift ten let-off half"}, {frac(999999999, 1000000), "rest lift ten let-off half late"}, {frac(1000, 1), all},
	} {
		if l, e := action.Happened(struck(), c.dip); strings.Join(l, " ") != c.want || e != api.OK {
			t.Errorf("Happened at %v: %v, error %d, want %v", c.dip, l, e, c.want)
		}
	}
	many := changed(struck(), func(a *api.Action) {
		a.Events = events(20)
		for n := range a.Events {
			a.Events[n].Level = n % 2
		}
	})
	const evenFirst = "e0 e2 e4 e6 e8 e10 e12 e14 e16 e18 e1 e3 e5 e7 e9 e11 e13 e15 e17 e19"
	if l, e := action.Order(many); strings.Join(l, " ") != evenFirst || e != api.OK {
		t.Error("Order of many events:", l, e)
	}
	silent := changed(struck(), func(a *api.Action) { a.Events = nil })
	if l, e := action.Order(silent); len(l) != 0 || e != api.OK {
		t.Error("Order of no events:", l, e)
	}
	if l, e := action.Order(tooLarge()); len(l) != 0 || e != api.ErrLarge {
		t.Error("Order that is too large:", l, e)
	}
	if l, e := action.Happened(tooLarge(), frac(0, 1)); len(l) != 0 || e != api.ErrLarge {
		t.Error("Happened that is too large:", l, e)
	}
	if l, e := action.Order(oblique()); strings.Join(l, " ") != "start two one three" || e != api.OK {
		t.Error("Order of dips that are close:", l, e)
	}
}

// P4.6: the errors of an order, each with its number.
func TestCheckOrder(t *testing.T) {
	list := func(s string) []string { return strings.Fields(s) }
	for _, c := range []struct {
		what string
		a    api.Action
		l    []string
		gap  int
		n    int
		want api.Errno
	}{
		{"nothing", struck(), nil, 0, 0, api.OK},
		{"one event", struck(), list("end"), 2000, 0, api.OK},
		{"one event at 0", struck(), list("rest"), 2000, 0, api.OK},
		{"the whole order", struck(), list("rest lift ten let-off half late end"), 0, 0, api.OK},
		{"equal dips the other way", struck(), list("ten lift half let-off"), 0, 0, api.OK},
		{"equal dips with a gap", struck(), list("rest ten lift"), 1, 2, api.ErrOrder},
		{"the gap", struck(), list("lift let-off"), 898, 0, api.OK},
		{"less than the gap", struck(), list("lift let-off"), 899, 1, api.ErrOrder},
		{"the gap a second time", struck(), list("let-off late end"), 50, 0, api.OK},
		{"less than the gap a second time", struck(), list("rest lift end late"), 2, 3, api.ErrOrder},
		{"the wrong way", struck(), list("let-off lift"), 0, 1, api.ErrOrder},
		{"the greatest gap", struck(), list("rest end"), 2000, 1, api.ErrOrder},
		{"a gap below 0", struck(), nil, -1, 0, api.ErrRange},
		{"too great a gap", struck(), list("lift end"), 2001, 0, api.ErrRange},
		{"the least int as the gap", struck(), list("lift end"), math.MinInt, 0, api.ErrRange},
		{"an unknown event", struck(), list("lift jump"), 0, 1, api.ErrMissing},
		{"a part", struck(), list("lift end hammer"), 0, 2, api.ErrMissing},
		{"twice", struck(), list("rest lift rest"), 0, 2, api.ErrExists},
		{"twice, and then unknown", struck(), list("lift lift jump"), 0, 1, api.ErrExists},
		{"unknown, and then twice", struck(), list("lift jump lift"), 0, 1, api.ErrMissing},
		{"unknown twice", struck(), list("lift jump jump"), 0, 1, api.ErrMissing},
		{"20 names", struck(), slices.Repeat([]string{"lift"}, 20), 0, 1, api.ErrExists},
		{"21 names", struck(), slices.Repeat([]string{"jump"}, 21), -1, 0, api.ErrLarge},
		{"a name ahead of the gap", struck(), list("lift jump"), -1, 1, api.ErrMissing},
		{"the gap ahead of what does not happen", struck(), list("lift drop"), -1, 0, api.ErrRange},
		{"what does not happen", struck(), list("lift drop"), 0, 1, api.ErrNone},
		{"what does not happen, first", struck(), list("drop lift"), 0, 0, api.ErrNone},
		{"a wrong order ahead of what does not happen", struck(), list("end lift drop"), 0, 1, api.ErrOrder},
		{"what does not happen ahead of a wrong order", struck(), list("drop end lift"), 0, 0, api.ErrNone},
		{"too large", tooLarge(), list("first wrong never"), 0, 1, api.ErrLarge},
		{"does not happen ahead of too large", tooLarge(), list("first never wrong"), 0, 1, api.ErrNone},
		{"not what is too large", tooLarge(), list("first"), 0, 0, api.OK},
		{"dips that are close", oblique(), list("start two one three"), 0, 0, api.OK},
		{"dips that are close, the wrong way", oblique(), list("start one two three"), 0, 2, api.ErrOrder},
	} {
		if n, e := action.CheckOrder(c.a, c.l, c.gap); n != c.n || e != c.want {
			t.Errorf("%s: %d, error %d, want %d, error %d", c.what, n, e, c.n, c.want)
		}
	}
}

// P4.6: dips with great denominators are compared exactly with each gap, also where the gap leads below 0.
func TestGapsOfCloseDips(t *testing.T) {
	a := oblique()
	for _, x := range a.Events {
		for _, y := range a.Events {
			if x == y {
				continue
			}
			first, e := action.EventAt(a, x.Name)
			wantErr(t, "EventAt", e, api.OK)
			second, e := action.EventAt(a, y.Name)
			wantErr(t, "EventAt", e, api.OK)
			for gap := range 2001 {
				wantedN, want := 0, api.OK
				if ratOf(second).Cmp(new(big.Rat).Add(ratOf(first), whole(gap))) < 0 {
					wantedN, want = 1, api.ErrOrder
				}
				if n, e := action.CheckOrder(a, []string{x.Name, y.Name}, gap); n != wantedN || e != want {
					t.Fatal(x, y, gap, n, e, want)
				}
			}
		}
	}
}

// P4.6, P4.11: the dip of an event is the least one at which its part is there.
func TestEventsAtRandom(t *testing.T) {
	r := dice()
	count := map[api.Errno]int{}
	for range 2000 {
		a := randomAction(r, []int{10, 100, 10000}[r.IntN(3)])
		for _, v := range a.Events {
			dip, e := action.EventAt(a, v.Name)
			count[e]++
			c, err := action.CurveOf(a, v.Part)
			if err == api.OK {
				var want api.Frac
				if want, err = firstAt(c, frac(v.Level, 1), v.Falling); want != dip {
					t.Fatal(a, v, dip, want)
				}
			}
			if e != err {
				t.Fatal(a, v, e, err)
			}
			after, e2 := action.Aftertouch(a, v.Name)
			if e == api.OK {
				l := ledger{}
				want, err := l.result(l.difference(whole(a.Dip), ratOf(dip)))
				if after != want || e2 != err {
					t.Fatal(a, v, after, e2, want, err)
				}
			} else if !isZero(after) || e2 != e {
				t.Fatal(a, v, after, e2)
			}
		}
	}
	if count[api.OK] < 500 || count[api.ErrNone] < 500 || count[api.ErrLarge] < 20 {
		t.Error(count)
	}
}

// P4.12: what has happened is a beginning of the order, which grows with the dip; an order that is accepted with a gap
// is accepted with each lesser one.
func TestOrdersAtRandom(t *testing.T) {
	r := dice()
	for range 500 {
		a := randomAction(r, 100)
		order, e := action.Order(a)
		if e != api.OK {
			continue
		}
		wantErr(t, "Order", orderError(a, order), api.OK)
		before := 0
		for step := range 20*a.Dip + 1 {
			l, e := action.Happened(a, reduced(step, 20))
			if e != api.OK || len(l) < before || len(l) > len(order) || !slices.Equal(l, order[:len(l)]) {
				t.Fatal(a, step, l, e, order)
			}
			before = len(l)
		}
		if before != len(order) {
			t.Fatal(a, before, order)
		}
		lesserGaps(t, r, a, order)
	}
}

// orderError tells whether dips ascend, on equal dips with the numbers of the events, and whether all that happen are there.
func orderError(a api.Action, order []string) api.Errno {
	number := func(name string) int {
		return slices.IndexFunc(a.Events, func(v api.ActionEvent) bool { return v.Name == name })
	}
	for i := range len(order) - 1 {
		x, _ := action.EventAt(a, order[i])
		y, _ := action.EventAt(a, order[i+1])
		if n := ratOf(x).Cmp(ratOf(y)); n > 0 || n == 0 && number(order[i]) > number(order[i+1]) {
			return api.ErrOrder
		}
	}
	for _, v := range a.Events {
		if _, e := action.EventAt(a, v.Name); slices.Contains(order, v.Name) != (e == api.OK) {
			return api.ErrNone
		}
	}
	return api.OK
}

func lesserGaps(t *testing.T, r *rand.Rand, a api.Action, order []string) {
	t.Helper()
	var some []string
	for _, name := range order {
		if r.IntN(3) > 0 {
			some = append(some, name)
		}
	}
	accepted := true
	for gap := range a.Dip + 2 {
		n, e := action.CheckOrder(a, some, gap)
		if e != api.OK && e != api.ErrOrder || e == api.OK && (!accepted || n != 0) || gap == 0 && e != api.OK {
			t.Fatal(a, some, gap, n, e)
		}
		accepted = e == api.OK
	}
	if accepted && len(some) > 1 {
		t.Fatal(a, some)
	}
}

func reduced(num, den int) api.Frac {
	f, _ := new(ledger).result(big.NewRat(int64(num), int64(den)))
	return f
}
