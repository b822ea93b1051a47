package action_test

import (
	"math"
	"strconv"
	"testing"

	"agraffe/action"
	"agraffe/api"
)

// parts are so many parts, each of which drives the next one.
func parts(count int) []api.ActionPart {
	var l []api.ActionPart
	driver := ""
	for n := range count {
		name := "p" + strconv.Itoa(n)
		l = append(l, api.ActionPart{Name: name, Driver: driver, Curve: curve(0, 0, 100, 100)})
		driver = name
	}
	return l
}

func events(count int) []api.ActionEvent {
	var l []api.ActionEvent
	for n := range count {
		l = append(l, api.ActionEvent{Name: "e" + strconv.Itoa(n), Part: "hammer", Level: n})
	}
	return l
}

func leads(count int) []api.Lead {
	var l []api.Lead
	for range count {
		l = append(l, api.Lead{Weight: 1, Place: 1})
	}
	return l
}

type change struct {
	what   string
	change func(a *api.Action)
	want   api.Errno
}

func checkChanges(t *testing.T, l []change) {
	t.Helper()
	for _, c := range l {
		wantErr(t, c.what, action.CheckAction(changed(upright(), c.change)), c.want)
	}
}

// P4.4: the dip, and the numbers of parts, events and leads.
func TestActionSizes(t *testing.T) {
	checkChanges(t, []change{
		{"the example", func(a *api.Action) {}, api.OK},
		{"nothing but a dip", func(a *api.Action) { *a = api.Action{Dip: 1} }, api.OK},
		{"the greatest dip", func(a *api.Action) { a.Dip = 2000 }, api.OK},
		{"no dip", func(a *api.Action) { a.Dip = 0 }, api.ErrRange},
		{"too great a dip", func(a *api.Action) { a.Dip = 2001 }, api.ErrRange},
		{"a dip below 0", func(a *api.Action) { a.Dip = -1 }, api.ErrRange},
		{"the least int as the dip", func(a *api.Action) { a.Dip = math.MinInt }, api.ErrRange},
		{"12 parts", func(a *api.Action) { a.Parts, a.Events = parts(12), nil }, api.OK},
		{"13 parts", func(a *api.Action) { a.Parts, a.Events = parts(13), nil }, api.ErrLarge},
		{"13 wrong parts", func(a *api.Action) { a.Parts = make([]api.ActionPart, 13) }, api.ErrLarge},
		{"the dip ahead of the parts", func(a *api.Action) { a.Dip, a.Parts = 0, parts(13) }, api.ErrRange},
		{"20 events", func(a *api.Action) { a.Events = events(20) }, api.OK},
		{"21 events", func(a *api.Action) { a.Events = events(21) }, api.ErrLarge},
		{"21 wrong events", func(a *api.Action) { a.Events = make([]api.ActionEvent, 21) }, api.ErrLarge},
		{"a part ahead of the events", func(a *api.Action) { a.Parts[1].Weight, a.Events = -1, events(21) }, api.ErrRange},
		{"8 leads", func(a *api.Action) { a.Leads = leads(8) }, api.OK},
		{"9 leads", func(a *api.Action) { a.Leads = leads(9) }, api.ErrLarge},
		{"9 wrong leads", func(a *api.Action) { a.Leads = make([]api.Lead, 9) }, api.ErrLarge},
		{"an event ahead of the leads", func(a *api.Action) { a.Events[2].Part, a.Leads = "x", leads(9) }, api.ErrMissing},
	})
}

// P4.4: names, drivers and weights of parts.
func TestPartErrors(t *testing.T) {
	checkChanges(t, []change{
		{"no name", func(a *api.Action) { a.Parts[0].Name = "" }, api.ErrName},
		{"a name with a digit ahead", func(a *api.Action) { a.Parts[1].Name = "1a" }, api.ErrName},
		{"a long name", func(a *api.Action) { a.Parts[1].Name = "hammer-shank1" }, api.ErrName},
		{"a name twice", func(a *api.Action) { a.Parts[1].Name = "wippen" }, api.ErrExists},
		{"an unknown driver", func(a *api.Action) { a.Parts[1].Driver = "jack" }, api.ErrMissing},
		{"a stroke as the driver", func(a *api.Action) { a.Parts[1].Driver = "-" }, api.ErrMissing},
		{"itself as the driver", func(a *api.Action) { a.Parts[1].Driver = "hammer" }, api.ErrMissing},
		{"a later part as the driver", func(a *api.Action) { a.Parts[0].Driver = "hammer" }, api.ErrMissing},
		{"no driver", func(a *api.Action) { a.Parts[1].Driver = "" }, api.OK},
		{"the same driver twice", func(a *api.Action) {
			a.Parts = append(a.Parts, api.ActionPart{Name: "damper", Driver: "wippen", Curve: curve(0, 0)})
		}, api.OK},
		{"the name ahead of the driver", func(a *api.Action) { a.Parts[1].Name, a.Parts[1].Driver = "", "x" }, api.ErrName},
		{"a name twice ahead of the driver", func(a *api.Action) { a.Parts[1].Name, a.Parts[1].Driver = "wippen", "x" }, api.ErrExists},
		{"the driver ahead of the corners", func(a *api.Action) { a.Parts[1].Driver, a.Parts[1].Curve = "x", api.Curve{} }, api.ErrMissing},
		{"the corners ahead of the weight", func(a *api.Action) { a.Parts[1].Weight, a.Parts[1].Curve = -1, api.Curve{} }, api.ErrShape},
		{"the weight ahead of the next part", func(a *api.Action) { a.Parts[0].Weight, a.Parts[1].Name = -1, "" }, api.ErrRange},
		{"the greatest weights", func(a *api.Action) { a.Parts[0].Weight, a.Parts[0].Friction = 100000, 10000 }, api.OK},
		{"no weights", func(a *api.Action) { a.Parts[0].Weight, a.Parts[0].Friction = 0, 0 }, api.OK},
		{"a weight below 0", func(a *api.Action) { a.Parts[1].Weight = -1 }, api.ErrRange},
		{"too great a weight", func(a *api.Action) { a.Parts[1].Weight = 100001 }, api.ErrRange},
		{"a friction below 0", func(a *api.Action) { a.Parts[1].Friction = -1 }, api.ErrRange},
		{"too great a friction", func(a *api.Action) { a.Parts[1].Friction = 10001 }, api.ErrRange},
	})
}

// P4.4: the corners of parts.
func TestCornerErrors(t *testing.T) {
	one, half, far := frac(1, 1), frac(1, 2), frac(10001, 1)
	twelve, thirteen := stairs(12), stairs(13)
	for _, c := range []struct {
		what string
		c    api.Curve
		want api.Errno
	}{
		{"none", api.Curve{}, api.ErrShape},
		{"one", curve(0, 0), api.OK},
		{"12", twelve, api.OK},
		{"13", thirteen, api.ErrShape},
		{"13 wrong ones", api.Curve{Corners: make([]api.Knee, 13)}, api.ErrShape},
		{"the greatest ones", curve(-10000, 10000, 10000, -10000), api.OK},
		{"a half as X", broken(half, one), api.ErrForm},
		{"a half as Y", broken(one, half), api.ErrForm},
		{"no denominator", broken(frac(1, 0), one), api.ErrForm},
		{"a denominator below 0", broken(one, frac(1, -1)), api.ErrForm},
		{"not in lowest terms", broken(one, frac(2, 2)), api.ErrForm},
		{"too great an X", broken(far, one), api.ErrRange},
		{"too great a Y", broken(one, far), api.ErrRange},
		{"too small an X", broken(frac(-10001, 1), one), api.ErrRange},
		{"too small a Y", broken(one, frac(-10001, 1)), api.ErrRange},
		{"the least int", broken(one, frac(math.MinInt, 1)), api.ErrRange},
		{"the form of Y ahead of the range of X", broken(far, half), api.ErrForm},
		{"the form of X ahead of the range of Y", broken(half, far), api.ErrForm},
		{"X twice", curve(1, 1, 1, 2), api.ErrOrder},
		{"X falls", curve(1, 1, 0, 2), api.ErrOrder},
		{"the range ahead of the order", broken(one, one, one, far), api.ErrRange},
		{"the order ahead of the next corner", broken(one, one, one, one, half, one), api.ErrOrder},
		{"a corner ahead of the order of the next one", broken(one, half, one, one), api.ErrForm},
	} {
		for n := range 2 {
			a := changed(upright(), func(a *api.Action) { a.Parts[n].Curve = c.c })
			wantErr(t, c.what, action.CheckAction(a), c.want)
		}
	}
}

// P4.4: events and leads.
func TestEventAndLeadErrors(t *testing.T) {
	lead := func(weight, place int) func(a *api.Action) {
		return func(a *api.Action) {
			a.Leads = []api.Lead{{Weight: 5000, Place: -1000}, {Weight: 1, Place: 1000}, {Weight: weight, Place: place}}
		}
	}
	checkChanges(t, []change{
		{"no name", func(a *api.Action) { a.Events[2].Name = "" }, api.ErrName},
		{"a long name", func(a *api.Action) { a.Events[2].Name = "abcdefghijklm" }, api.ErrName},
		{"a name twice", func(a *api.Action) { a.Events[2].Name = "lift" }, api.ErrExists},
		{"the name of a part", func(a *api.Action) { a.Events[2].Name = "wippen" }, api.OK},
		{"an unknown part", func(a *api.Action) { a.Events[2].Part = "jack" }, api.ErrMissing},
		{"no part", func(a *api.Action) { a.Events[2].Part = "" }, api.ErrMissing},
		{"an event as the part", func(a *api.Action) { a.Events[2].Part = "lift" }, api.ErrMissing},
		{"the greatest level", func(a *api.Action) { a.Events[2].Level = 10000 }, api.OK},
		{"the least level", func(a *api.Action) { a.Events[2].Level = -10000 }, api.OK},
		{"too great a level", func(a *api.Action) { a.Events[2].Level = 10001 }, api.ErrRange},
		{"too small a level", func(a *api.Action) { a.Events[2].Level = -10001 }, api.ErrRange},
		{"the name ahead of the part", func(a *api.Action) { a.Events[1] = api.ActionEvent{Name: "", Part: "x"} }, api.ErrName},
		{"a name twice ahead of the part", func(a *api.Action) { a.Events[1] = api.ActionEvent{Name: "lift", Part: "x"} }, api.ErrExists},
		{"the part ahead of the level", func(a *api.Action) { a.Events[1] = api.ActionEvent{Name: "x", Part: "x", Level: 10001} }, api.ErrMissing},
		{"the level ahead of the next event", func(a *api.Action) { a.Events[0].Level, a.Events[1].Name = 10001, "" }, api.ErrRange},
		{"leads", lead(7, 0), api.OK},
		{"a lead without weight", lead(0, 0), api.ErrRange},
		{"a heavy lead", lead(5001, 0), api.ErrRange},
		{"a lead too far out", lead(1, 1001), api.ErrRange},
		{"a lead too far behind", lead(1, -1001), api.ErrRange},
		{"a lead at the least int", lead(1, math.MinInt), api.ErrRange},
	})
}

// P4.5 to P4.9: the error of the action, ahead of those of all later arguments, and zero values beside it.
func TestActionFirst(t *testing.T) {
	bad := frac(2, 4)
	window := api.TouchWindow{Down: 100001}
	for want, a := range badActions() {
		wantErr(t, "CheckAction", action.CheckAction(a), want)
		c, e := action.CurveOf(a, "x")
		wantErr(t, "CurveOf", e, want)
		l := []api.Frac{}
		for what, is := range map[string]func() (api.Frac, api.Errno){
			"Position":   func() (api.Frac, api.Errno) { return action.Position(a, "x", bad) },
			"Ratio":      func() (api.Frac, api.Errno) { return action.Ratio(a, "x", bad) },
			"EventAt":    func() (api.Frac, api.Errno) { return action.EventAt(a, "x") },
			"Aftertouch": func() (api.Frac, api.Errno) { return action.Aftertouch(a, "x") },
			"Balance":    func() (api.Frac, api.Errno) { return action.Balance(a, bad) },
		} {
			f, e := is()
			wantErr(t, what, e, want)
			l = append(l, f)
		}
		order, e := action.Order(a)
		wantErr(t, "Order", e, want)
		happened, e := action.Happened(a, bad)
		wantErr(t, "Happened", e, want)
		n, e := action.CheckOrder(a, []string{"let-off", "x"}, -1)
		wantErr(t, "CheckOrder", e, want)
		touch, e := action.Touch(a, bad)
		wantErr(t, "Touch", e, want)
		wantErr(t, "CheckTouch", action.CheckTouch(a, window, bad), want)
		holes, e := action.ChooseLeads(a, leads(9), window)
		wantErr(t, "ChooseLeads", e, want)
		text, e := action.Print(a)
		wantErr(t, "Print", e, want)
		for _, f := range append(l, touch[0], touch[1]) {
			if !isZero(f) {
				t.Error("beside an error:", want, f)
			}
		}
		if !isNoCurve(c) || len(order)+len(happened)+len(holes)+n != 0 || text != "" {
			t.Error("beside an error:", want, c, order, happened, holes, n, text)
		}
	}
}
