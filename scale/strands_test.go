package scale_test

import (
	"testing"

	"agraffe/api"
	"agraffe/scale"
)

// P2.2: the chapter's examples.
func TestExamples(t *testing.T) {
	f := span(440000, 440000)
	x, e := scale.Tension(steel(), plain(), f)
	wantRange(t, "Tension", x, e, 76389, 76390)
	x, e = scale.Share(steel(), plain(), f)
	wantRange(t, "Share", x, e, 424, 425)
	x, e = scale.Inharmonicity(steel(), plain(), f)
	wantRange(t, "Inharmonicity", x, e, 793624, 793636)
	x, e = scale.Impedance(steel(), plain(), f)
	wantRange(t, "Impedance", x, e, 4340, 4341)
}

// P2.2: the four numbers, as the formulas give them with numbers of any size.
func TestFormulas(t *testing.T) {
	r := dice()
	for range 3000 {
		l := []api.Wire{
			{Name: "a", Mass: from(r, 1, 200000), Strength: from(r, 100, 1000000), Stiff: from(r, 0, 100000000)},
			{Name: "b", Mass: from(r, 1, 200000), Strength: 1, Stiff: 3},
		}
		s := api.Strand{Length: from(r, 1000, 300000), Core: from(r, 100, 3000), Wire: "a"}
		if r.IntN(2) == 0 {
			s.Over, s.Wrap = from(r, s.Core+1, 10000), []string{"a", "b"}[r.IntN(2)]
		}
		low := from(r, 1, 10000000)
		if r.IntN(2) == 0 {
			low = from(r, 1, 30000)
		}
		f := span(low, min(low+r.IntN(3)*r.IntN(1000), 10000000))
		checkFormulas(t, l, s, f)
	}
}

// P2.2 and R6: at the limits nothing goes beyond an int.
func TestFormulasAtLimits(t *testing.T) {
	heavy := []api.Wire{{Name: "a", Mass: 200000, Strength: 1000000, Stiff: 100000000}}
	light := []api.Wire{{Name: "a", Mass: 1, Strength: 100, Stiff: 0}, {Name: "b", Mass: 1, Strength: 1000000, Stiff: 100000000}}
	for _, f := range []api.Range{span(1, 1), span(1, 10000000), span(10000000, 10000000), span(33333, 33334), span(999, 1000), span(3333333, 3333334)} {
		checkFormulas(t, heavy, api.Strand{Length: 300000, Core: 3000, Over: 10000, Wire: "a", Wrap: "a"}, f)
		checkFormulas(t, heavy, api.Strand{Length: 1000, Core: 3000, Wire: "a"}, f)
		checkFormulas(t, light, api.Strand{Length: 1000, Core: 100, Wire: "a"}, f)
		checkFormulas(t, light, api.Strand{Length: 1000, Core: 3000, Wire: "b"}, f)
		checkFormulas(t, light, api.Strand{Length: 300000, Core: 100, Over: 10000, Wire: "a", Wrap: "b"}, f)
	}
}

func checkFormulas(t *testing.T, l []api.Wire, s api.Strand, f api.Range) {
	t.Helper()
	want := exactTension(l, s, f)
	x, e := scale.Tension(l, s, f)
	if e != api.OK || !want.is(x) {
		t.Fatalf("Tension %v %v %v: %v, error %d, want %v", l, s, f, x, e, want)
	}
	bears := rounded(whole(l[indexOf(l, s.Wire)].Strength*s.Core*s.Core), whole(1000000))
	if x, e := scale.Share(l, s, f); e != api.OK || !rounded(want.times(whole(1000)), bears).is(x) {
		t.Fatalf("Share %v %v %v: %v, error %d", l, s, f, x, e)
	}
	x, e = scale.Inharmonicity(l, s, f)
	if want.lo.Sign() == 0 {
		if x != (api.Range{}) || e != api.ErrZero {
			t.Fatalf("Inharmonicity %v %v %v without tension: %v, error %d", l, s, f, x, e)
		}
	} else {
		thick := rounded(whole(1000*s.Core*s.Core), whole(s.Length))
		bend := rounded(thick.times(thick), whole(1000)).times(whole(l[indexOf(l, s.Wire)].Stiff))
		if e != api.OK || !rounded(bend, want.times(whole(1000))).is(x) {
			t.Fatalf("Inharmonicity %v %v %v: %v, error %d", l, s, f, x, e)
		}
	}
	speed := exactSpeed(s, f)
	x, e = scale.Impedance(l, s, f)
	if speed.lo.Sign() == 0 {
		if x != (api.Range{}) || e != api.ErrZero {
			t.Fatalf("Impedance %v %v %v without speed: %v, error %d", l, s, f, x, e)
		}
	} else if e != api.OK || !rounded(want.times(whole(1000)), speed).is(x) {
		t.Fatalf("Impedance %v %v %v: %v, error %d", l, s, f, x, e)
	}
}

func indexOf(l []api.Wire, name string) int {
	for i, w := range l {
		if w.Name == name {
			return i
		}
	}
	return -1
}

// P2.2: what is 0 at the lower end, and what may not be divided by it.
func TestZeros(t *testing.T) {
	l := []api.Wire{{Name: "a", Mass: 200, Strength: 100, Stiff: 5}}
	s := api.Strand{Length: 1000, Core: 100, Wire: "a"}
	// The speed is from 0 to 1.
	x, e := scale.Tension(l, s, span(1, 1))
	wantRange(t, "Tension", x, e, 0, 1)
	x, e = scale.Share(l, s, span(1, 1))
	wantRange(t, "Share", x, e, 0, 1000)
	_, e = scale.Inharmonicity(l, s, span(1, 1))
	wantErr(t, "Inharmonicity without tension", e, api.ErrZero)
	_, e = scale.Impedance(l, s, span(999, 1000))
	wantErr(t, "Impedance without speed", e, api.ErrZero)
	// The speed is 1, but the tension is from 0 to 1.
	x, e = scale.Impedance(l, s, span(1000, 1000))
	wantRange(t, "Impedance without tension", x, e, 0, 1000)
	_, e = scale.Inharmonicity(l, s, span(1000, 1000))
	wantErr(t, "Inharmonicity without tension, with speed", e, api.ErrZero)
}

// P2.2: the error of a frequency stands behind that of the strand, and ahead of ErrZero.
func TestFrequencyErrors(t *testing.T) {
	calls := []func([]api.Wire, api.Strand, api.Range) (api.Range, api.Errno){scale.Tension, scale.Share, scale.Inharmonicity, scale.Impedance}
	for i, call := range calls {
		for _, f := range []api.Range{span(0, 1), span(-1, 5), span(2, 1), span(1, 10000001), span(10000001, 10000001), {}} {
			if x, e := call(steel(), plain(), f); x != (api.Range{}) || e != api.ErrRange {
				t.Errorf("call %d of %v: %v, error %d", i, f, x, e)
			}
		}
		if x, e := call(steel(), api.Strand{Length: 1000, Core: 1000}, span(0, 1)); x != (api.Range{}) || e != api.ErrMissing {
			t.Errorf("call %d without a wire: %v, error %d", i, x, e)
		}
		if _, e := call(steel(), plain(), span(100000, 10000000)); e != api.OK {
			t.Errorf("call %d of the widest frequency: error %d", i, e)
		}
	}
}

// P2.2: classes, their edges and their errors in order.
func TestClassOf(t *testing.T) {
	many := make([]int, 21)
	for i := range many {
		many[i] = i + 1
	}
	most := api.MaxNumber
	for _, c := range []struct {
		what  string
		marks []int
		x     api.Range
		n     int
		want  api.Errno
	}{
		{"the example", []int{4000, 5000}, span(4340, 4341), 1, api.OK},
		{"a mark between", []int{4341}, span(4340, 4341), 0, api.ErrNone},
		{"a mark at both ends", []int{4341}, span(4341, 4341), 1, api.OK},
		{"a mark at the lower end", []int{4340}, span(4340, 4341), 1, api.OK},
		{"a mark behind", []int{4342}, span(4340, 4341), 0, api.OK},
		{"no marks", nil, span(0, most), 0, api.OK},
		{"all marks", []int{1, 2, most}, span(most, most), 3, api.OK},
		{"20 marks", many[:20], span(15, 15), 15, api.OK},
		{"21 marks", many, span(-1, 0), 0, api.ErrLarge},
		{"a mark of 0", []int{0, 0}, span(1, 0), 0, api.ErrRange},
		{"a great mark", []int{1, most + 1}, span(1, 1), 0, api.ErrRange},
		{"equal marks", []int{3, 3}, span(1, 0), 0, api.ErrOrder},
		{"falling marks", []int{4, 3}, span(1, 1), 0, api.ErrOrder},
		{"the first mark first", []int{4, 3, 0}, span(1, 1), 0, api.ErrOrder},
		{"turned ends", []int{1}, span(3, 2), 0, api.ErrRange},
		{"below 0", []int{1}, span(-1, 5), 0, api.ErrRange},
		{"a great end", []int{1}, span(0, most+1), 0, api.ErrRange},
		{"two marks between", []int{2, 3}, span(1, 4), 0, api.ErrNone},
	} {
		n, e := scale.ClassOf(c.marks, c.x)
		if n != c.n || e != c.want {
			t.Errorf("%s: %d, error %d, want %d, error %d", c.what, n, e, c.n, c.want)
		}
	}
}

// P2.8: more length, core or frequency never makes less tension; a wider range encloses the narrower one's.
func TestMonotone(t *testing.T) {
	r := dice()
	for range 2000 {
		l := []api.Wire{{Name: "a", Mass: from(r, 1, 200000), Strength: 1000000}}
		s := api.Strand{Length: from(r, 1000, 299990), Core: from(r, 100, 2990), Wire: "a"}
		f := span(from(r, 2, 9999990), 0)
		f.Hi = min(f.Lo+r.IntN(100), 9999990)
		x := tension(t, l, s, f)
		longer, thicker := s, s
		longer.Length += from(r, 1, 10)
		thicker.Core += from(r, 1, 10)
		higher := span(f.Lo+1, f.Hi+from(r, 1, 10))
		for _, y := range []api.Range{tension(t, l, longer, f), tension(t, l, thicker, f), tension(t, l, s, higher)} {
			if y.Lo < x.Lo || y.Hi < x.Hi {
				t.Fatalf("%v %v: %v, and then %v", s, f, x, y)
			}
		}
		if y := tension(t, l, s, span(f.Lo-1, f.Hi+1)); y.Lo > x.Lo || y.Hi < x.Hi {
			t.Fatalf("%v %v: %v, and wider %v", s, f, x, y)
		}
	}
}

// P2.8: twice the length has four times the tension, where nothing is rounded ahead of it.
func TestTwiceTheLength(t *testing.T) {
	l := []api.Wire{{Name: "a", Mass: 10000, Strength: 1000000}}
	for _, length := range []int{1000, 5000, 20000, 150000} {
		s := api.Strand{Length: length, Core: 1000, Wire: "a"}
		x := tension(t, l, s, span(1000000, 1000000))
		s.Length *= 2
		y := tension(t, l, s, span(1000000, 1000000))
		if x.Lo != x.Hi || y != span(4*x.Lo, 4*x.Hi) {
			t.Errorf("length %d: %v, and twice %v", length, x, y)
		}
	}
}
