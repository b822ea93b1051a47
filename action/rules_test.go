package action_test

import (
	"reflect"
	"slices"
	"testing"

	"agraffe/action"
	"agraffe/api"
)

// R2: no function panics, and each one ends, whatever its numbers are.
func TestExtremes(t *testing.T) {
	for _, a := range extremes {
		for _, b := range extremes {
			extremeCurves(a, b)
			extremeActions(a, b)
		}
	}
	for _, text := range []string{"action", "action \n", "\xff\n", "part\n", "action 1\npart - - - - - -\n", "action 1\nevent\nlead\n"} {
		action.Parse(text)
	}
}

func extremeCurves(a, b int) {
	f, g := frac(a, b), frac(b, a)
	one := frac(1, 1)
	for _, c := range []api.Curve{{}, broken(f, g), broken(g, one, one, f), broken(frac(-1, 1), f, one, g), broken(frac(a, 1), frac(b, 1), one, one), bent()} {
		action.CheckCurve(c)
		for _, x := range []api.Frac{f, g, one, frac(a, 1), frac(1, a)} {
			action.Value(c, x)
			action.Slope(c, x)
			action.Reach(c, x, true)
			action.Reach(c, x, false)
		}
		action.Compose(c, bent())
		action.Compose(bent(), c)
		action.Compose(c, c)
	}
}

func extremeActions(a, b int) {
	f := frac(a, b)
	one := frac(1, 1)
	for _, x := range []api.Action{
		{},
		{Dip: a, Parts: make([]api.ActionPart, 2), Events: make([]api.ActionEvent, 2), Leads: make([]api.Lead, 2)},
		changed(upright(), func(x *api.Action) { x.Dip = a }),
		changed(upright(), func(x *api.Action) { x.Parts[0].Weight, x.Parts[1].Friction = a, b }),
		changed(upright(), func(x *api.Action) { x.Parts[1].Curve = broken(frac(a, 1), frac(b, 1), one, one) }),
		changed(upright(), func(x *api.Action) { x.Parts[1].Curve = broken(f, f) }),
		changed(upright(), func(x *api.Action) { x.Events[0].Level = a }),
		changed(upright(), func(x *api.Action) { x.Leads = []api.Lead{{Weight: a, Place: b}} }),
	} {
		action.CheckAction(x)
		for _, name := range []string{"hammer", "lift", ""} {
			action.CurveOf(x, name)
			action.Position(x, name, f)
			action.Ratio(x, name, f)
			action.EventAt(x, name)
			action.Aftertouch(x, name)
		}
		action.Order(x)
		action.Happened(x, f)
		action.CheckOrder(x, []string{"lift", "let-off"}, a)
		action.Balance(x, f)
		action.Touch(x, f)
		action.CheckTouch(x, api.TouchWindow{Down: a, Up: b}, frac(0, 1))
		action.ChooseLeads(x, []api.Lead{{Weight: a, Place: b}}, api.TouchWindow{Down: a, Up: b})
		action.ChooseLeads(x, leads(1), api.TouchWindow{Down: b, Up: a})
		action.Print(x)
	}
}

// R3: arguments stay as they are, and results share no memory with them or with each other.
func TestMemory(t *testing.T) {
	a := struck()
	a.Leads = leads(3)
	a.Leads = slices.Grow(a.Leads, 10) // room behind the leads, which stays as it is
	kept := changed(struck(), func(a *api.Action) { a.Leads = leads(3) })
	order, gap := []string{"lift", "let-off", "end"}, 3
	holes := []api.Lead{{Weight: 140, Place: 500}, {Weight: 20, Place: 500}}
	outer, inner := bent(), curve(0, 25, 10, -5)
	for range 2 {
		c, e := action.Compose(outer, inner)
		if e != api.OK || len(c.Corners) != 5 {
			t.Fatal(c, e)
		}
		c.Corners[0].Y = frac(99, 1)
		for _, p := range a.Parts {
			c, e := action.CurveOf(a, p.Name)
			wantErr(t, "CurveOf", e, api.OK)
			c.Corners[0].Y = frac(99, 1)
		}
		if c, _ := action.CurveOf(a, "wippen"); !equalCurves(c, curve(0, 0, 1000, 500)) {
			t.Error("CurveOf again:", c)
		}
		l, e := action.Order(a)
		wantErr(t, "Order", e, api.OK)
		l[0] = "x"
		l, e = action.Happened(a, frac(2, 1))
		wantErr(t, "Happened", e, api.OK)
		l[0] = "x"
		action.CheckOrder(a, order, gap)
		chosen, e := action.ChooseLeads(a, holes, api.TouchWindow{Down: 185, Up: 0})
		if e != api.OK || !slices.Equal(chosen, []int{0, 1}) {
			t.Error("ChooseLeads:", chosen, e)
		}
		chosen[0] = 99
		action.Touch(a, frac(1, 2))
		action.Print(a)
	}
	text := "action 5\npart a - 1 2 3 4\n"
	x, _, _ := action.Parse(text)
	x.Parts[0].Curve.Corners[0].X = frac(99, 1)
	if y, _, _ := action.Parse(text); y.Parts[0].Curve.Corners[0].X != frac(3, 1) {
		t.Error("Parse again:", y)
	}
	if !reflect.DeepEqual(a, kept) || !slices.Equal(order, []string{"lift", "let-off", "end"}) || !slices.Equal(holes, []api.Lead{{Weight: 140, Place: 500}, {Weight: 20, Place: 500}}) ||
		!equalCurves(outer, bent()) || !equalCurves(inner, curve(0, 25, 10, -5)) {
		t.Error("an argument was changed:", a, order, holes, outer, inner)
	}
	if behind := a.Leads[3:10]; slices.ContainsFunc(behind, func(l api.Lead) bool { return l != api.Lead{} }) {
		t.Error("the memory behind the leads was changed:", behind)
	}
}

// R5: a nil list and an empty one are the same.
func TestEmptyLists(t *testing.T) {
	window := api.TouchWindow{Down: 0, Up: 0}
	for _, a := range []api.Action{{Dip: 3}, {Dip: 3, Parts: []api.ActionPart{}, Events: []api.ActionEvent{}, Leads: []api.Lead{}}} {
		wantErr(t, "CheckAction", action.CheckAction(a), api.OK)
		for _, order := range [][]string{nil, {}} {
			if n, e := action.CheckOrder(a, order, 0); n != 0 || e != api.OK {
				t.Error("CheckOrder:", n, e)
			}
		}
		for _, holes := range [][]api.Lead{nil, {}} {
			if l, e := action.ChooseLeads(a, holes, window); len(l) != 0 || e != api.OK {
				t.Error("ChooseLeads:", l, e)
			}
		}
		if l, e := action.Order(a); len(l) != 0 || e != api.OK {
			t.Error("Order:", l, e)
		}
		if text, e := action.Print(a); text != "action 3\n" || e != api.OK {
			t.Error("Print:", text, e)
		}
	}
	for _, c := range []api.Curve{{}, {Corners: []api.Knee{}}} {
		wantErr(t, "CheckCurve", action.CheckCurve(c), api.ErrShape)
	}
}
