package plate_test

import (
	"reflect"
	"slices"
	"testing"

	"agraffe/api"
	"agraffe/plate"
)

// R2: no function panics, and each one ends, whatever its numbers are.
func TestExtremes(t *testing.T) {
	for _, a := range extremes {
		for _, b := range extremes {
			extremeForces(a, b)
			extremeLoads(a, b)
			extremeBearings(a, b)
			plate.Margin(frac(a, b), frac(b, a))
			plate.Margin(frac(1, 1), frac(a, b))
			plate.Margin(frac(a, b), frac(1, 1))
		}
	}
	for _, text := range []string{"force", "force \n", "\xff\n", "force - - - - - -\n", "force -9999999999 9999999999 0 0 0 -9999999999\n"} {
		plate.Parse(text)
	}
}

func extremeForces(a, b int) {
	for _, v := range [][3]int{at(a, b, a), at(a, 0, b), at(0, 1, a)} {
		plate.PullOf(span(a, b), v, at(b, a, b))
		plate.PullOf(span(1, 2), v, at(b, a, b))
		plate.PullOf(span(a, b), at(0, 0, 0), at(1, 2, 3))
		for _, l := range [][]api.Pulled{couple(), {{At: v, Force: v}}, {{Force: v}}, {{At: v}}} {
			plate.CheckForces(l)
			plate.Sum(l)
			plate.Moment(l, v)
			plate.Balanced(l)
			plate.Balance(l, v)
			plate.Move(l, v)
			plate.Print(l)
		}
	}
}

func extremeLoads(a, b int) {
	for _, l := range [][][2]int{nil, {{a, b}}, {{0, a}, {b, 1}}, {{b, a}, {100, b}}} {
		for _, bars := range [][]int{nil, {a}, {a, b}, {0, 100, a}, {-20000, 0, 20000}} {
			plate.CheckBars(bars)
			plate.Distribute(bars, l)
		}
		for _, g := range []api.Girder{girder(a, b, a), girder(a, b, 0), girder(0, b, a), girder(-20000, 20000, 1)} {
			plate.CheckGirder(g)
			plate.Reactions(g, l)
			plate.Shear(g, l, a)
			plate.Bending(g, l, b)
			plate.Worst(g, l)
			plate.Holds(g, l)
		}
	}
}

func extremeBearings(a, b int) {
	for _, x := range []api.Bearing{{Front: a, Bridge: b, Back: a, Ahead: b, Behind: a}, {Bridge: a, Ahead: 1, Behind: b}, example()} {
		plate.CheckBearing(x)
		plate.DownBearing(x, a)
		plate.BridgeLoad([]api.Bearing{x}, []api.Range{span(a, b)})
		plate.BridgeLoad([]api.Bearing{x, x}, []api.Range{span(1, 2), span(a, b)})
		plate.LeastHeight(x, a, b)
		plate.LeastHeight(x, 1, a)
	}
}

// R3: arguments stay as they are, and results share no memory with them or with each other.
func TestMemory(t *testing.T) {
	forces, bars := couple(), []int{0, 50, 100}
	loads := [][2]int{{60, 30}, {20, 10}, {100, 5}, {20, 7}}
	bearings, tensions := []api.Bearing{example()}, []api.Range{span(1, 2)}
	moved, e := plate.Move(forces, at(0, 0, 0))
	wantErr(t, "Move", e, api.OK)
	moved[0].Force[2], moved[1].At[0] = 99, 99
	plate.Sum(forces)
	plate.Moment(forces, at(1, 2, 3))
	plate.Balance(forces, at(1, 2, 3))
	plate.Print(forces)
	g := girder(0, 100, 1000)
	plate.Reactions(g, loads)
	plate.Worst(g, loads)
	plate.Holds(g, loads)
	plate.BridgeLoad(bearings, tensions)
	shares, e := plate.Distribute(bars, loads)
	wantErr(t, "Distribute", e, api.OK)
	kept := slices.Clone(shares)
	if again, _ := plate.Distribute(bars, loads); !slices.Equal(again, kept) {
		t.Error("Distribute again:", again, kept)
	}
	shares[0] = frac(99, 1)
	if again, _ := plate.Distribute(bars, loads); !slices.Equal(again, kept) {
		t.Error("loads of bars share memory:", again, kept)
	}
	if !reflect.DeepEqual(forces, couple()) || !slices.Equal(bars, []int{0, 50, 100}) || !slices.Equal(loads, [][2]int{{60, 30}, {20, 10}, {100, 5}, {20, 7}}) ||
		bearings[0] != example() || tensions[0] != span(1, 2) {
		t.Error("an argument was changed:", forces, bars, loads, bearings, tensions)
	}
}

// R5: a nil list and an empty one are the same.
func TestEmptyLists(t *testing.T) {
	for _, l := range [][]api.Pulled{nil, {}} {
		force, moment, e := plate.Balance(l, at(1, 2, 3))
		if is, e2 := plate.Balanced(l); !is || e2 != api.OK || e != api.OK || force != (api.Pulled{At: at(1, 2, 3)}) || moment != at(0, 0, 0) {
			t.Error("forces:", force, moment, e, is, e2)
		}
		wantErr(t, "CheckForces", plate.CheckForces(l), api.OK)
	}
	for _, bars := range [][]int{nil, {}} {
		wantErr(t, "CheckBars", plate.CheckBars(bars), api.ErrShape)
	}
	for _, l := range [][][2]int{nil, {}} {
		if place, bending, e := plate.Worst(girder(3, 9, 0), l); place != 3 || bending != frac(0, 1) || e != api.OK {
			t.Error("Worst:", place, bending, e)
		}
		if r, e := plate.Reactions(girder(3, 9, 0), l); r != [2]api.Frac{frac(0, 1), frac(0, 1)} || e != api.OK {
			t.Error("Reactions:", r, e)
		}
	}
	for _, l := range [][]api.Bearing{nil, {}} {
		for _, tensions := range [][]api.Range{nil, {}} {
			if load, e := plate.BridgeLoad(l, tensions); load != span(0, 0) || e != api.OK {
				t.Error("BridgeLoad:", load, e)
			}
		}
	}
}
