package temper_test

import (
	"slices"
	"testing"

	"agraffe/api"
	"agraffe/temper"
)

// R1: the errors of a temperament come ahead of those of other arguments, and beside them there is nothing.
func TestErrorsOfTemperaments(t *testing.T) {
	wrongTest, wrongSteps := api.BeatTest{}, slices.Repeat([]api.TuneStep{step(-1, -1)}, 101)
	for want, bad := range badTemperaments() {
		wantErr(t, "CheckTemperament", temper.CheckTemperament(bad), want)
		rotated, e := temper.Rotated(bad, -1)
		if wantErr(t, "Rotated", e, want); rotated != (api.Temperament{}) {
			t.Error("Rotated:", rotated)
		}
		pitches := func(what string, p api.Pitch, e api.Errno) {
			t.Helper()
			if wantErr(t, what, e, want); p != (api.Pitch{}) {
				t.Error(what, p)
			}
		}
		p, e := temper.Fifth(bad, -1)
		pitches("Fifth", p, e)
		p, e = temper.Third(bad, -1)
		pitches("Third", p, e)
		p, e = temper.ClassOf(bad, -1)
		pitches("ClassOf", p, e)
		p, e = temper.PitchOf(bad, -1)
		pitches("PitchOf", p, e)
		p, e = temper.Interval(bad, -1, -1)
		pitches("Interval", p, e)
		p, way, e := temper.Derived(bad, wrongSteps, -1)
		if pitches("Derived", p, e); len(way) > 0 {
			t.Error("Derived:", way)
		}
		f, e := temper.Frequency(bad, 0, -1)
		if wantErr(t, "Frequency", e, want); f != (api.Range{}) {
			t.Error("Frequency:", f)
		}
		b, e := temper.Beats(bad, 0, wrongTest)
		if wantErr(t, "Beats", e, want); b != (api.Range{}) {
			t.Error("Beats:", b)
		}
		l, e := temper.Scale(bad, 0)
		if wantErr(t, "Scale", e, want); len(l) > 0 {
			t.Error("Scale:", l)
		}
		n, e := temper.Purity(bad, wrongTest)
		if wantErr(t, "Purity", e, want); n != 0 {
			t.Error("Purity:", n)
		}
		n, e = temper.Widest(bad)
		if wantErr(t, "Widest", e, want); n != 0 {
			t.Error("Widest:", n)
		}
		is, e := temper.Rises(bad, 0, []api.BeatTest{wrongTest})
		if wantErr(t, "Rises", e, want); is {
			t.Error("Rises")
		}
		is, e = temper.Well(bad)
		if wantErr(t, "Well", e, want); is {
			t.Error("Well")
		}
	}
}

// R2: no function panics, and each one ends, whatever its numbers are.
func TestExtremes(t *testing.T) {
	x := utmost()
	for _, a := range extremes {
		for _, b := range extremes {
			temper.Rotated(x, a)
			temper.Fifth(x, a)
			temper.Third(x, a)
			temper.ClassOf(x, a)
			temper.PitchOf(x, a)
			temper.Interval(x, a, b)
			temper.Frequency(x, a, b)
			temper.RatioOf(a)
			temper.TestsOf(a, b, a)
			temper.TestsOf(4, a, b)
			temper.Order(a, b)
			for _, test := range []api.BeatTest{beat(a, b, 5, 4), beat(36, 40, a, b), beat(a, a, b, b)} {
				temper.CheckTest(test)
				temper.Purity(x, test)
				temper.Beats(x, 440000, test)
				temper.Beats(x, a, test)
				temper.Rises(x, b, []api.BeatTest{test, test})
			}
			for _, l := range [][]api.TuneStep{nil, {step(a, b)}, {step(48, a), step(a, b)}, {step(48, 60), step(60, b)}} {
				temper.CheckOrder(l, a, b)
				temper.CheckOrder(l, 0, 87)
				temper.Derived(x, l, b)
			}
			temper.CheckTemperament(changed(x, func(t *api.Temperament) { t.Pyth[0], t.Synt[11] = a, b }))
			temper.Print(changed(x, func(t *api.Temperament) { t.Pyth[5], t.Pyth[6] = a, b }))
		}
	}
	for _, text := range []string{"", " ", "\xff", "- - -", "a 1 2 3"} {
		temper.Parse(text)
		temper.Named(text)
	}
}

// R3: arguments stay as they are, and results share no memory with them or with later results.
func TestMemory(t *testing.T) {
	equal := named(t, "equal")
	tests := append(make([]api.BeatTest, 0, 9), beat(39, 43, 5, 4), beat(40, 44, 5, 4))
	steps := append(make([]api.TuneStep, 0, 20), bearings()...)
	first, _ := temper.Scale(equal, 440000)
	for range 2 {
		scale, _ := temper.Scale(equal, 440000)
		lower, _ := temper.Against(equal, named(t, "pythagoras"))
		found, _ := temper.TestsOf(4, 39, 44)
		order, _ := temper.Order(32, 48)
		_, way, _ := temper.Derived(equal, steps, 38)
		if !slices.Equal(scale, first) || !slices.Equal(lower, []int{1, -1, 1, 1, -1, 1, -1, 1, -1, 0, 1, -1}) ||
			!slices.Equal(found, tests) || !slices.Equal(order[:13], bearings()) || !slices.Equal(way, []int{48, 36, 43, 38}) {
			t.Error(scale, lower, found, order, way)
		}
		temper.Rises(equal, 440000, tests)
		temper.CheckOrder(steps, 32, 48)
		clear(scale)
		clear(append(lower, 1))
		clear(append(found, api.BeatTest{}))
		clear(order)
		clear(append(way, 1))
	}
	if !slices.Equal(tests, []api.BeatTest{beat(39, 43, 5, 4), beat(40, 44, 5, 4)}) || !slices.Equal(steps, bearings()) {
		t.Error("an argument was changed:", tests, steps)
	}
	if slices.ContainsFunc(tests[2:9], func(b api.BeatTest) bool { return b != api.BeatTest{} }) ||
		slices.ContainsFunc(steps[13:20], func(s api.TuneStep) bool { return s != api.TuneStep{} }) {
		t.Error("the memory behind an argument was changed:", tests[:9], steps[:20])
	}
}

// R5: a nil list and an empty one are the same.
func TestNil(t *testing.T) {
	equal := named(t, "equal")
	for _, l := range [][]api.TuneStep{nil, {}} {
		wantErr(t, "CheckOrder", temper.CheckOrder(l, 48, 48), api.OK)
		wantErr(t, "CheckOrder", temper.CheckOrder(l, 47, 48), api.ErrGap)
		if p, way, e := temper.Derived(equal, l, 48); p != pitch(0, 0, 0, 1) || !slices.Equal(way, []int{48}) || e != api.OK {
			t.Error("Derived:", p, way, e)
		}
	}
	for _, l := range [][]api.BeatTest{nil, {}} {
		if is, e := temper.Rises(equal, 1, l); !is || e != api.OK {
			t.Error("Rises:", is, e)
		}
	}
}
