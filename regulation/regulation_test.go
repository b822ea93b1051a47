package regulation_test

import (
	"math"
	"slices"
	"strings"
	"testing"

	"agraffe/api"
	"agraffe/regulation"
)

type benchCase struct {
	what   string
	change func(b *api.Bench)
	want   api.Errno
}

func checkBenches(t *testing.T, l []benchCase) {
	t.Helper()
	for _, c := range l {
		wantErr(t, c.what, regulation.CheckBench(changed(grand(), c.change)), c.want)
	}
}

// P5.1: measures, and the order of their errors.
func TestMeasures(t *testing.T) {
	checkBenches(t, []benchCase{
		{"the example", func(b *api.Bench) {}, api.OK},
		{"nothing", func(b *api.Bench) { *b = api.Bench{} }, api.OK},
		{"12 measures", func(b *api.Bench) { *b = api.Bench{Measures: measures(12)} }, api.OK},
		{"13 measures", func(b *api.Bench) { *b = api.Bench{Measures: measures(13)} }, api.ErrLarge},
		{"13 measures without names", func(b *api.Bench) { b.Measures = make([]api.Measure, 13) }, api.ErrLarge},
		{"no name", func(b *api.Bench) { b.Measures[2].Name = "" }, api.ErrName},
		{"a name that begins with a digit", func(b *api.Bench) { b.Measures[2].Name = "1a" }, api.ErrName},
		{"a name of 12 letters", func(b *api.Bench) { *b = api.Bench{Measures: []api.Measure{{Name: strings.Repeat("x", 12)}}} }, api.OK},
		{"a name of 13 letters", func(b *api.Bench) { *b = api.Bench{Measures: []api.Measure{{Name: strings.Repeat("x", 13)}}} }, api.ErrName},
		{"two that are no names", func(b *api.Bench) { b.Measures[0].Name, b.Measures[1].Name = "", "" }, api.ErrName},
		{"a name twice", func(b *api.Bench) { b.Measures[2].Name = "let-off" }, api.ErrExists},
		{"a name twice, ahead of a value", func(b *api.Bench) { b.Measures[2] = api.Measure{Name: "drop", Value: 100001} }, api.ErrExists},
		{"no name, ahead of a value", func(b *api.Bench) { b.Measures[2] = api.Measure{Value: 100001} }, api.ErrName},
		{"a value ahead of a later name", func(b *api.Bench) { b.Measures[0].Value, b.Measures[1].Name = 100001, "" }, api.ErrRange},
		{"a value ahead of a later name that exists", func(b *api.Bench) { b.Measures[0].Value, b.Measures[1].Name = 100001, "let-off" }, api.ErrRange},
		{"the greatest numbers", func(b *api.Bench) {
			b.Measures[0] = api.Measure{Name: "let-off", Value: 100000, Low: 100000, High: 100000}
		}, api.OK},
		{"the least numbers", func(b *api.Bench) {
			b.Measures[0] = api.Measure{Name: "let-off", Value: -100000, Low: -100000, High: -100000}
		}, api.OK},
		{"Value", func(b *api.Bench) { b.Measures[0].Value = 100001 }, api.ErrRange},
		{"Value below 0", func(b *api.Bench) { b.Measures[0].Value = -100001 }, api.ErrRange},
		{"the least Value", func(b *api.Bench) { b.Measures[0].Value = math.MinInt }, api.ErrRange},
		{"Low", func(b *api.Bench) { b.Measures[0].Low = -100001 }, api.ErrRange},
		{"Low, ahead of the order", func(b *api.Bench) { b.Measures[0].Low = 100001 }, api.ErrRange},
		{"High", func(b *api.Bench) { b.Measures[0].High = 100001 }, api.ErrRange},
		{"High, ahead of the order", func(b *api.Bench) { b.Measures[0].High = -100001 }, api.ErrRange},
		{"High below Low", func(b *api.Bench) { b.Measures[0].High = 9 }, api.ErrOrder},
		{"High at Low", func(b *api.Bench) { b.Measures[0].High = 10 }, api.OK},
		{"an order ahead of adjustments", func(b *api.Bench) {
			b.Measures[2].High = -6
			b.Adjustments = make([]api.Adjustment, 13)
		}, api.ErrOrder},
	})
}

// P5.1: adjustments, and the order of their errors.
func TestAdjustments(t *testing.T) {
	checkBenches(t, []benchCase{
		{"12 adjustments", func(b *api.Bench) { b.Adjustments = adjustments(12, 1) }, api.OK},
		{"13 adjustments", func(b *api.Bench) { b.Adjustments = adjustments(13, 1) }, api.ErrLarge},
		{"13 adjustments without names", func(b *api.Bench) { b.Adjustments = make([]api.Adjustment, 13) }, api.ErrLarge},
		{"adjustments without measures", func(b *api.Bench) { *b = api.Bench{Adjustments: adjustments(2, 1)} }, api.OK},
		{"no name", func(b *api.Bench) { b.Adjustments[2].Name = "" }, api.ErrName},
		{"a name with a blank", func(b *api.Bench) { b.Adjustments[2].Name = "a b" }, api.ErrName},
		{"a name twice", func(b *api.Bench) { b.Adjustments[2].Name = "button" }, api.ErrExists},
		{"the name of a measure", func(b *api.Bench) { b.Adjustments[2].Name = "let-off" }, api.OK},
		{"a name ahead of too many effects", func(b *api.Bench) {
			b.Adjustments[0].Name, b.Adjustments[0].Effects = "", make([]api.Effect, 13)
		}, api.ErrName},
		{"a name twice, ahead of too many effects", func(b *api.Bench) {
			b.Adjustments[2].Name, b.Adjustments[2].Effects = "screw", make([]api.Effect, 13)
		}, api.ErrExists},
		{"effects ahead of a later name", func(b *api.Bench) {
			b.Adjustments[0].Effects[0].By, b.Adjustments[1].Name = 0, ""
		}, api.ErrZero},
		{"limits ahead of a later name that exists", func(b *api.Bench) {
			b.Adjustments[0].Pass, b.Adjustments[1].Name = 0, "button"
		}, api.ErrRange},
		{"effects ahead of limits", func(b *api.Bench) { b.Adjustments[0].Effects[1].By, b.Adjustments[0].Pass = 0, 0 }, api.ErrZero},
		{"limits ahead of After", func(b *api.Bench) { b.Adjustments[0].Pass, b.Adjustments[0].After = 0, []string{""} }, api.ErrRange},
		{"After ahead of a later adjustment", func(b *api.Bench) { b.Adjustments[0].After, b.Adjustments[1].Pass = []string{""}, 0 }, api.ErrMissing},
		{"all limits at their greatest", func(b *api.Bench) {
			b.Adjustments[0].Least, b.Adjustments[0].Most, b.Adjustments[0].Pass = -1000, 1000, 1000
		}, api.OK},
		{"Least and Most of 0", func(b *api.Bench) { b.Adjustments[0].Least, b.Adjustments[0].Most = 0, 0 }, api.OK},
		{"Least below", func(b *api.Bench) { b.Adjustments[0].Least = -1001 }, api.ErrRange},
		{"Least above", func(b *api.Bench) { b.Adjustments[0].Least = 1 }, api.ErrRange},
		{"Most below", func(b *api.Bench) { b.Adjustments[0].Most = -1 }, api.ErrRange},
		{"Most above", func(b *api.Bench) { b.Adjustments[0].Most = 1001 }, api.ErrRange},
		{"Pass of 0", func(b *api.Bench) { b.Adjustments[0].Pass = 0 }, api.ErrRange},
		{"Pass of 1", func(b *api.Bench) { b.Adjustments[0].Pass = 1 }, api.OK},
		{"Pass above", func(b *api.Bench) { b.Adjustments[0].Pass = 1001 }, api.ErrRange},
		{"Pass beyond Most", func(b *api.Bench) { b.Adjustments[0].Pass = 11 }, api.OK},
	})
}

// P5.1: effects, and the order of their errors.
func TestEffects(t *testing.T) {
	of := func(l ...api.Effect) func(b *api.Bench) {
		return func(b *api.Bench) { b.Adjustments[1].Effects = l }
	}
	many := func(count int) func(b *api.Bench) {
		return func(b *api.Bench) {
			*b = api.Bench{Measures: measures(12), Adjustments: adjustments(1, 1)}
			for _, m := range b.Measures[:min(count, 12)] {
				b.Adjustments[0].Effects = append(b.Adjustments[0].Effects, on(m.Name, 1))
			}
			for range count - len(b.Measures) {
				b.Adjustments[0].Effects = append(b.Adjustments[0].Effects, api.Effect{})
			}
		}
	}
	checkBenches(t, []benchCase{
		{"none", of(), api.OK},
		{"12", func(b *api.Bench) {
			many(11)(b)
			b.Adjustments[0].Effects = append(b.Adjustments[0].Effects, on("m11", -1))
		}, api.OK},
		{"13", func(b *api.Bench) { b.Adjustments[1].Effects = make([]api.Effect, 13) }, api.ErrLarge},
		{"13, of which the first ones are right", func(b *api.Bench) {
			many(12)(b)
			b.Adjustments[0].Effects = append(b.Adjustments[0].Effects, on("m0", 1))
		}, api.ErrLarge},
		{"no such measure", of(on("drop", 1), on("key", 1)), api.ErrMissing},
		{"no measure", of(on("", 1)), api.ErrMissing},
		{"an adjustment's name", of(on("button", 1)), api.ErrMissing},
		{"no such measure, ahead of what it adds", of(on("key", 1001)), api.ErrMissing},
		{"no such measure twice", of(on("key", 1), on("key", 1)), api.ErrMissing},
		{"a measure twice", of(on("drop", 1), on("catch", 1), on("drop", 1)), api.ErrExists},
		{"a measure twice, ahead of what it adds", of(on("drop", 1), on("drop", 1001)), api.ErrExists},
		{"what it adds, ahead of a later one", of(on("drop", 1001), on("drop", 0)), api.ErrRange},
		{"0, ahead of a later one", of(on("drop", 0), on("drop", 1001)), api.ErrZero},
		{"the greatest and the least", of(on("drop", 1000), on("catch", -1000)), api.OK},
		{"more than the greatest", of(on("drop", 1001)), api.ErrRange},
		{"less than the least", of(on("drop", -1001)), api.ErrRange},
		{"the least int", of(on("drop", math.MinInt)), api.ErrRange},
		{"0", of(on("drop", 0)), api.ErrZero},
	})
}

// P5.1: After, and circles.
func TestAfter(t *testing.T) {
	after := func(n int, names ...string) func(b *api.Bench) {
		return func(b *api.Bench) { b.Adjustments[n].After = names }
	}
	twelve := func(b *api.Bench) {
		b.Adjustments = adjustments(12, 1)
		for n := range 11 {
			b.Adjustments[11].After = append(b.Adjustments[11].After, b.Adjustments[n].Name)
		}
	}
	checkBenches(t, []benchCase{
		{"11 names", twelve, api.OK},
		{"12 names, one of them its own", func(b *api.Bench) {
			twelve(b)
			b.Adjustments[11].After = append(b.Adjustments[11].After, "a11")
		}, api.ErrCycle},
		{"13 names", after(0, make([]string, 13)...), api.ErrLarge},
		{"12 names, none of which is there", after(0, make([]string, 12)...), api.ErrMissing},
		{"a later adjustment", after(0, "check"), api.OK},
		{"no such adjustment", after(1, "button", "key"), api.ErrMissing},
		{"no name", after(1, ""), api.ErrMissing},
		{"a measure's name", after(1, "drop"), api.ErrMissing},
		{"no such adjustment twice", after(1, "key", "key"), api.ErrMissing},
		{"a name twice", after(1, "button", "check", "button"), api.ErrExists},
		{"a name twice, ahead of a later one", after(1, "button", "button", "key"), api.ErrExists},
		{"its own name", after(2, "check"), api.ErrCycle},
		{"its own name twice", after(2, "check", "check"), api.ErrExists},
		{"a circle of two", after(0, "screw"), api.ErrCycle},
		{"a circle of three", func(b *api.Bench) {
			b.Adjustments[0].After, b.Adjustments[2].After = []string{"check"}, []string{"screw"}
		}, api.ErrCycle},
		{"two ways to one", func(b *api.Bench) {
			b.Adjustments[1].After, b.Adjustments[2].After = []string{"button"}, []string{"screw", "button"}
		}, api.OK},
		{"a circle, behind all other errors", func(b *api.Bench) {
			b.Adjustments[0].After = []string{"button"}
			b.Adjustments[2].After = []string{"key"}
		}, api.ErrMissing},
	})
}

// P5.1: the order.
func TestOrder(t *testing.T) {
	chain := changed(api.Bench{Adjustments: adjustments(12, 1)}, func(b *api.Bench) {
		for n := range 11 {
			b.Adjustments[n].After = []string{b.Adjustments[n+1].Name}
		}
	})
	for _, c := range []struct {
		what string
		b    api.Bench
		want []int
	}{
		{"the example", grand(), []int{0, 1, 2}},
		{"none", api.Bench{Measures: measures(2)}, nil},
		{"no After", api.Bench{Adjustments: adjustments(4, 1)}, []int{0, 1, 2, 3}},
		{"the first one behind the last one", changed(grand(), func(b *api.Bench) { b.Adjustments[0].After = []string{"check"} }), []int{2, 0, 1}},
		{"the first one behind the second one", changed(api.Bench{Adjustments: adjustments(4, 1)}, func(b *api.Bench) { b.Adjustments[0].After = []string{"a1"} }), []int{1, 0, 2, 3}},
		{"backwards", chain, []int{11, 10, 9, 8, 7, 6, 5, 4, 3, 2, 1, 0}},
	} {
		if l, e := regulation.Order(c.b); !slices.Equal(l, c.want) || e != api.OK {
			t.Errorf("%s: %v, error %d, want %v", c.what, l, e, c.want)
		}
	}
}

// P5.1: no order in which each one comes behind its After is lexicographically less.
func TestOrderIsTheFirstOne(t *testing.T) {
	r := dice()
	for range 300 {
		b := randomBench(r, room{adjustments: 6, steps: 1, pass: 1})
		l, e := regulation.Order(b)
		if want := firstOrder(b, nil); !slices.Equal(l, want) || e != api.OK {
			t.Fatal(b, l, e, want)
		}
	}
}

// firstOrder tries all orders that begin so.
func firstOrder(b api.Bench, begin []int) []int {
	if len(begin) == len(b.Adjustments) {
		return begin
	}
	for n, a := range b.Adjustments {
		early := func(name string) bool {
			return !slices.ContainsFunc(begin, func(i int) bool { return b.Adjustments[i].Name == name })
		}
		if slices.Contains(begin, n) || slices.ContainsFunc(a.After, early) {
			continue
		}
		if l := firstOrder(b, append(slices.Clone(begin), n)); l != nil {
			return l
		}
	}
	return nil
}

// P5.1: the greatest bench there is.
func TestFullBench(t *testing.T) {
	b := api.Bench{Measures: measures(12), Adjustments: adjustments(12, 1000)}
	for n := range b.Adjustments {
		for i := range b.Measures {
			b.Measures[i].Value = 100000
			b.Adjustments[n].Effects = append(b.Adjustments[n].Effects, on(b.Measures[i].Name, 1000))
		}
		b.Adjustments[n].Least = -1000
	}
	wantErr(t, "CheckBench", regulation.CheckBench(b), api.OK)
	full := slices.Repeat([]int{1000}, 12)
	values, e := regulation.Values(b, full)
	if want := slices.Repeat([]int{12100000}, 12); !slices.Equal(values, want) || e != api.OK {
		t.Error("Values:", values, e)
	}
	if r, e := regulation.Reach(b, 11); r != [2]int{-11900000, 12100000} || e != api.OK {
		t.Error("Reach:", r, e)
	}
	wantErr(t, "CheckRefusal", regulation.CheckRefusal(b, slices.Repeat([]int{100}, 12)), api.ErrProof)
}
