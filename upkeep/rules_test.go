package upkeep_test

import (
	"slices"
	"testing"

	"agraffe/api"
	"agraffe/temper"
	"agraffe/upkeep"
)

// R2: no function panics, and each one ends, whatever its numbers are.
func TestExtremes(t *testing.T) {
	for _, a := range extremes {
		for _, b := range extremes {
			extremeTests(named(t, "equal"), a, b)
			extremeNumbers(a, b)
			extremeDays(a, b)
		}
	}
	for _, text := range []string{"", " ", "\n", "\xff", "- -\n", "- - - - - -\n", "1 2 3 4 5 6", "0 1 1 1 -9999999999 9999999999\n"} {
		upkeep.Parse(text)
		upkeep.ParseReading(text)
	}
}

func extremeTests(x api.Temperament, a, b int) {
	sounds := []api.Sounding{sounding(36, a, b), sounding(40, 1, 20000000)}
	for _, l := range [][]api.BeatTest{nil, {beat(a, b, 5, 4)}, {beat(36, 40, a, b)}, {beat(36, 40, 5, 4), beat(a, 60, 16, b)}} {
		upkeep.CheckTests(l)
		upkeep.Predicted(x, a, l)
		upkeep.Predicted(x, 440000, l)
		upkeep.Heard(sounds, l)
		upkeep.Heard([]api.Sounding{sounding(a, b, b), sounding(b, a, a)}, l)
		counts := append(countsOf(l), count(beat(36, 43, 3, 2), a, b))
		upkeep.CheckCounts(counts)
		upkeep.Failed(x, b, counts)
		upkeep.Failed(x, 440000, counts)
		upkeep.Print(counts)
		upkeep.Notes(l)
		upkeep.Signature(l, a)
		upkeep.SinglesOut(l)
		upkeep.Thinned(l)
		for _, set := range [][]int{nil, {a}, {a, b}, {0, a, b}} {
			upkeep.Explains(l, nil, set)
			upkeep.Explains(l, set, set)
			upkeep.Least(l, set)
			upkeep.Suspects(l, set)
		}
	}
}

func extremeNumbers(a, b int) {
	for _, l := range [][]api.Overpull{nil, {overpull(a, b, 1)}, {overpull(0, 1, 500), overpull(a, 87, b)}, {overpull(0, 87, 500)}} {
		upkeep.CheckOverpull(l)
		upkeep.OverpullAt(l, a)
		upkeep.Raise(l, missingAt(5, a), b)
		upkeep.Raise(l, []int{a}, b)
	}
	for _, n := range []int{0, 1, 999, 200000} {
		upkeep.Passes(a, b, n)
		upkeep.Passes(a, n, b)
		upkeep.Passes(n, a, b)
	}
	for _, l := range [][]api.Torque{nil, {torque(a, b)}, {torque(0, a), torque(b, 0)}, {torque(a, 5), torque(100000, b)}, {torque(0, 100000), torque(99999, 99999)}} {
		upkeep.CheckTorques(l)
		upkeep.LooseOn(l, a)
		upkeep.LooseOn(l, 0)
	}
}

func extremeDays(a, b int) {
	for _, l := range [][]api.Climate{nil, {reading(a, b)}, {reading(0, a), reading(b, 0)}, {reading(100000, 1000)}} {
		upkeep.CheckClimate(l)
		upkeep.AddReading(l, reading(a, b))
		upkeep.HumidityOn(l, a)
		for _, d := range []api.Drift{drift(a, b, 1000, 0), drift(0, 1, a, b), drift(0, a, 1, b), drift(0, 1, 1000, 1000000)} {
			upkeep.CheckDrift(d)
			upkeep.Moisture(d, l, b)
			upkeep.Offset(d, l, a)
			upkeep.ServiceDay(d, l, b)
		}
	}
	upkeep.FormatReading(reading(a, b))
}

// scribble writes over a list, and behind it.
func scribble[T any](x T, lists ...[]T) {
	for _, l := range lists {
		l = append(l, x)
		for n := range l {
			l[n] = x
		}
	}
}

// roomy has room behind a list, which is empty.
func roomy[T any](l []T) []T {
	return slices.Grow(slices.Clone(l), 9)
}

func untouched[T comparable](t *testing.T, what string, l, want []T) {
	t.Helper()
	var nothing T
	behind := l[len(l):cap(l)]
	if !slices.Equal(l, want) || slices.ContainsFunc(behind, func(x T) bool { return x != nothing }) {
		t.Errorf("%s: %v, behind it %v, want %v", what, l, behind, want)
	}
}

// R3, R4: arguments stay as they are, and results share no memory with them or with later results.
func TestMemory(t *testing.T) {
	equal := named(t, "equal")
	tests, counts, climate := roomy(three()), roomy(threeCounts()), roomy(readings(3))
	failed, set := roomy([]int{0, 1}), roomy([]int{36})
	missing, table := roomy(missingAt(5, 1000)), roomy([]api.Overpull{overpull(0, 87, 250)})
	sounds := roomy([]api.Sounding{sounding(36, 220000, 220000), sounding(40, 277000, 277000), sounding(43, 330500, 330500)})
	for range 2 {
		notes, e := upkeep.Notes(tests)
		wantList(t, "Notes", notes, e, 36, 40, 43)
		signature, e := upkeep.Signature(tests, 40)
		wantList(t, "Signature", signature, e, 1, 2)
		left, e := upkeep.Thinned(tests)
		wantList(t, "Thinned", left, e, 0, 1)
		suspects, e := upkeep.Suspects(tests, failed)
		wantList(t, "Suspects", suspects, e, 36)
		raised, e := upkeep.Raise(table, missing, 2000)
		wantList(t, "Raise", raised, e, missingAt(5, 1250)...)
		wrong, e := upkeep.Failed(equal, 440000, counts)
		wantList(t, "Failed", wrong, e, 1)
		ranges, _ := upkeep.Predicted(equal, 440000, tests)
		heard, _ := upkeep.Heard(sounds, tests)
		if beats, _ := temper.Beats(equal, 440000, tests[1]); len(ranges) != 3 || ranges[1] != beats || len(heard) != 3 || heard[0] != count(three()[0], 1000, 1000) {
			t.Error(ranges, heard)
		}
		more, _ := upkeep.AddReading(climate, reading(3, 1))
		again, _ := upkeep.AddReading(climate, reading(3, 2))
		if !slices.Equal(more, append(readings(3), reading(3, 1))) || !slices.Equal(again, append(readings(3), reading(3, 2))) {
			t.Error("AddReading:", more, again)
		}
		wantErr(t, "Explains", upkeep.Explains(tests, failed, set), api.OK)
		upkeep.SinglesOut(tests)
		upkeep.Print(counts)
		upkeep.ServiceDay(drift(0, 1, 1, 1), climate, 4)
		scribble(99, notes, signature, left, suspects, raised, wrong)
		scribble(span(9, 9), ranges)
		scribble(count(beat(9, 9, 9, 9), 9, 9), heard)
		scribble(reading(9, 9), more, again)
	}
	untouched(t, "tests", tests, three())
	untouched(t, "counts", counts, threeCounts())
	untouched(t, "climate", climate, readings(3))
	untouched(t, "failed", failed, []int{0, 1})
	untouched(t, "set", set, []int{36})
	untouched(t, "missing", missing, missingAt(5, 1000))
	untouched(t, "table", table, []api.Overpull{overpull(0, 87, 250)})
	untouched(t, "sounds", sounds, []api.Sounding{sounding(36, 220000, 220000), sounding(40, 277000, 277000), sounding(43, 330500, 330500)})
}

// R3: the lists of one result share no memory.
func TestMemoryOfOneResult(t *testing.T) {
	want := [][]int{{36, 40}, {36, 43}, {40, 43}}
	for n := range want {
		least, e := upkeep.Least(three(), []int{0, 1, 2})
		if e != api.OK || !equalSets(least, want) {
			t.Fatal(least, e)
		}
		scribble(99, least[n])
		for i := range want {
			if i != n && !slices.Equal(least[i], want[i]) {
				t.Error(n, least)
			}
		}
	}
}

// R5: a nil list and an empty one are the same.
func TestEmptyLists(t *testing.T) {
	equal := named(t, "equal")
	for _, l := range [][]api.BeatTest{nil, {}} {
		wantErr(t, "CheckTests", upkeep.CheckTests(l), api.OK)
		ranges, e := upkeep.Predicted(equal, 440000, l)
		if wantErr(t, "Predicted", e, api.OK); len(ranges) > 0 {
			t.Error("Predicted:", ranges)
		}
		notes, e := upkeep.Notes(l)
		wantList(t, "Notes", notes, e)
		left, e := upkeep.Thinned(l)
		wantList(t, "Thinned", left, e)
		for _, failed := range [][]int{nil, {}} {
			wantErr(t, "Explains", upkeep.Explains(l, failed, failed), api.OK)
			if least, e := upkeep.Least(l, failed); e != api.OK || len(least) != 1 || len(least[0]) != 0 {
				t.Error("Least:", least, e)
			}
			suspects, e := upkeep.Suspects(l, failed)
			wantList(t, "Suspects", suspects, e)
		}
		for _, s := range [][]api.Sounding{nil, {}} {
			heard, e := upkeep.Heard(s, l)
			if wantErr(t, "Heard", e, api.OK); len(heard) > 0 {
				t.Error("Heard:", heard)
			}
		}
	}
	for _, l := range [][]api.BeatCount{nil, {}} {
		failed, e := upkeep.Failed(equal, 440000, l)
		wantList(t, "Failed", failed, e)
		if text, e := upkeep.Print(l); text != "" || e != api.OK {
			t.Error("Print:", text, e)
		}
	}
	for _, l := range [][]api.Torque{nil, {}} {
		wantErr(t, "CheckTorques", upkeep.CheckTorques(l), api.OK)
	}
	for _, l := range [][]api.Overpull{nil, {}} {
		n, e := upkeep.OverpullAt(l, 5)
		wantNumber(t, "OverpullAt", n, e, 0)
	}
	for _, l := range [][]api.Climate{nil, {}} {
		_, e := upkeep.HumidityOn(l, 5)
		wantErr(t, "HumidityOn", e, api.ErrNone)
		more, e := upkeep.AddReading(l, reading(1, 2))
		if e != api.OK || !slices.Equal(more, []api.Climate{reading(1, 2)}) {
			t.Error("AddReading:", more, e)
		}
	}
}
