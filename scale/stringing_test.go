package scale_test

import (
	"slices"
	"testing"

	"agraffe/api"
	"agraffe/number"
	"agraffe/scale"
)

// P2.3: the errors of stringings, each ahead of those behind it, with the unison that has it.
func TestCheckStringing(t *testing.T) {
	second := func(change func(*api.Unison)) api.Stringing { return withUnison(two(), 1, change) }
	fork := func(n int) api.Stringing {
		s := two()
		s.Fork = n
		return s
	}
	wires := func(l []api.Wire) api.Stringing {
		s := two()
		s.Wires = l
		return s
	}
	sameAgain := func(n int) api.Stringing {
		s := two()
		s.Unisons = slices.Repeat(s.Unisons[:1], n)
		return s
	}
	for _, c := range []struct {
		what   string
		s      api.Stringing
		unison int
		want   api.Errno
	}{
		{"the example", two(), 0, api.OK},
		{"no wires and unisons", api.Stringing{Fork: 1000}, 0, api.OK},
		{"a piano", piano(60), 0, api.OK},
		{"all zero", api.Stringing{}, 0, api.ErrRange},
		{"a low fork", fork(999), 0, api.ErrRange},
		{"the lowest fork", fork(1000), 0, api.OK},
		{"a high fork, and wires", api.Stringing{Fork: 10000001, Wires: []api.Wire{{}}}, 0, api.ErrRange},
		{"wires, and unisons", api.Stringing{Fork: 10000000, Wires: []api.Wire{{}}, Unisons: make([]api.Unison, 91)}, 0, api.ErrName},
		{"91 unisons", api.Stringing{Fork: 1000, Unisons: make([]api.Unison, 91)}, 0, api.ErrLarge},
		{"90 unisons", sameAgain(90), 1, api.ErrOrder},
		{"a pitch, and Count", second(func(u *api.Unison) { u.Pitch, u.Count = api.Pitch{Den: 13}, 0 }), 1, api.ErrRange},
		{"a pitch of zeros", second(func(u *api.Unison) { u.Pitch = api.Pitch{} }), 1, api.ErrRange},
		{"no strings, and no wire", second(func(u *api.Unison) { u.Count, u.Strand.Wire = 0, "" }), 1, api.ErrRange},
		{"1 string", second(func(u *api.Unison) { u.Count = 1 }), 0, api.OK},
		{"4 strings", second(func(u *api.Unison) { u.Count = 4 }), 0, api.OK},
		{"5 strings", second(func(u *api.Unison) { u.Count = 5 }), 1, api.ErrRange},
		{"a strand, and Enclose", second(func(u *api.Unison) { u.Strand.Wire, u.Pitch.Two = "iron", 400 }), 1, api.ErrMissing},
		{"the strand's form", second(func(u *api.Unison) { u.Strand.Over, u.Pitch.Two = 5, 400 }), 1, api.ErrForm},
		{"Enclose", second(func(u *api.Unison) { u.Pitch.Two = 400 }), 1, api.ErrLarge},
		{"a high frequency", second(func(u *api.Unison) { u.Pitch.Two = 5 }), 1, api.ErrRange},
		{"a frequency below 1, and the order", second(func(u *api.Unison) { u.Pitch.Two = -20 }), 1, api.ErrRange},
		{"a falling pitch", second(func(u *api.Unison) { u.Pitch.Two = -1 }), 1, api.ErrOrder},
		{"an equal pitch", second(func(u *api.Unison) { u.Pitch = api.Pitch{Den: 2} }), 1, api.ErrOrder},
		{"an equal pitch of another form", withUnison(second(func(u *api.Unison) { u.Pitch = api.Pitch{Two: 2, Den: 2} }), 0, func(u *api.Unison) { u.Pitch.Two = 1 }), 1, api.ErrOrder},
		{"just above", second(func(u *api.Unison) { u.Pitch = api.Pitch{Two: -19, Three: 12, Den: 12} }), 0, api.OK},
		{"the first unison first", withUnison(second(func(u *api.Unison) { u.Count = 0 }), 0, func(u *api.Unison) { u.Strand.Wire = "iron" }), 0, api.ErrMissing},
		{"no wires", wires(nil), 0, api.ErrMissing},
		{"a wire that is too weak", wires([]api.Wire{{Name: "steel", Mass: 1, Strength: 1}}), 0, api.OK},
	} {
		unison, e := scale.CheckStringing(c.s)
		if unison != c.unison || e != c.want {
			t.Errorf("CheckStringing: %s: %d, error %d, want %d, error %d", c.what, unison, e, c.unison, c.want)
		}
		checkFirstError(t, c.what, c.s, c.want)
	}
}

// checkFirstError holds the error of a stringing against those of all functions with one, ahead of all their other errors.
func checkFirstError(t *testing.T, what string, s api.Stringing, want api.Errno) {
	t.Helper()
	if want == api.OK {
		return
	}
	bad := api.TensionLimits{Least: -1}
	got := map[string]api.Errno{}
	_, got["Frequency"] = scale.Frequency(s, -1)
	_, got["Tensions"] = scale.Tensions(s)
	_, got["Total"] = scale.Total(s)
	n, e := scale.Keeps(s, bad)
	got["Keeps"] = e
	_, got["LongestFor"] = scale.LongestFor(s, -1, bad)
	_, got["LeastGauge"] = scale.LeastGauge(s, -1, bad)
	_, got["Allowed"] = scale.Allowed(s, bad, nil)
	c, m, e := scale.Choose(s, bad, nil)
	got["Choose"] = e
	_, got["CheckChoice"] = scale.CheckChoice(s, bad, nil, api.GaugeChoice{})
	_, got["With"] = scale.With(s, nil, nil)
	_, got["Print"] = scale.Print(s)
	for name, e := range got {
		wantErr(t, name+": "+what, e, want)
	}
	if n != 0 || m != 0 || c.Gauges != nil || c.Potentials != nil {
		t.Errorf("%s: Keeps %d, Choose %v, %d", what, n, c, m)
	}
}

// P2.3: frequencies, tensions and their sum, of the examples and of a piano.
func TestStringing(t *testing.T) {
	l, e := scale.Tensions(two())
	if e != api.OK || !slices.Equal(l, []api.Range{span(76389, 76390), span(76389, 76390)}) {
		t.Errorf("Tensions: %v, error %d", l, e)
	}
	x, e := scale.Total(two())
	wantRange(t, "Total", x, e, 458334, 458340)
	x, e = scale.Frequency(two(), 0)
	wantRange(t, "Frequency of 0", x, e, 440000, 440000)
	x, e = scale.Frequency(two(), 1)
	wantRange(t, "Frequency of 1", x, e, 880000, 880000)
	for _, n := range []int{-1, 2} {
		_, e := scale.Frequency(two(), n)
		wantErr(t, "Frequency of no unison", e, api.ErrMissing)
	}
	if l, e := scale.Tensions(api.Stringing{Fork: 1000}); len(l) != 0 || e != api.OK {
		t.Errorf("Tensions of none: %v, error %d", l, e)
	}
	x, e = scale.Total(api.Stringing{Fork: 1000})
	wantRange(t, "Total of none", x, e, 0, 0)
}

func TestTotals(t *testing.T) {
	s := piano(60)
	s.Unisons[3].Strand = wound()
	s.Unisons[3].Count = 1
	s.Unisons[5].Count = 4
	l, e := scale.Tensions(s)
	if e != api.OK || len(l) != 60 {
		t.Fatalf("Tensions: %v, error %d", l, e)
	}
	sum := api.Range{}
	for i, u := range s.Unisons {
		f, _ := number.Enclose(u.Pitch, s.Fork)
		if got, e := scale.Frequency(s, i); got != f || e != api.OK {
			t.Errorf("Frequency %d: %v, error %d, want %v", i, got, e, f)
		}
		if !exactTension(s.Wires, u.Strand, f).is(l[i]) {
			t.Errorf("Tension %d: %v", i, l[i])
		}
		sum.Lo += u.Count * l[i].Lo
		sum.Hi += u.Count * l[i].Hi
	}
	x, e := scale.Total(s)
	wantRange(t, "Total", x, e, sum.Lo, sum.Hi)
}
