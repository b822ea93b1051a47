package temper_test

import (
	"slices"
	"testing"

	"agraffe/api"
	"agraffe/temper"
)

// P6.1: what is accepted, and the first error of what is not.
func TestCheckTemperament(t *testing.T) {
	equal := named(t, "equal")
	with := func(change func(t *api.Temperament)) api.Temperament { return changed(equal, change) }
	for _, c := range []struct {
		what string
		t    api.Temperament
		want api.Errno
	}{
		{"nothing", api.Temperament{}, api.ErrName},
		{"a name alone", api.Temperament{Name: "a"}, api.ErrOpen},
		{"no name", with(func(t *api.Temperament) { t.Name = "" }), api.ErrName},
		{"a digit first", with(func(t *api.Temperament) { t.Name = "1a" }), api.ErrName},
		{"a blank", with(func(t *api.Temperament) { t.Name = "a b" }), api.ErrName},
		{"12 letters", with(func(t *api.Temperament) { t.Name = "abcdefghij-1" }), api.OK},
		{"13 letters", with(func(t *api.Temperament) { t.Name = "abcdefghij-12" }), api.ErrName},
		{"Pyth 48 and -48", with(func(t *api.Temperament) { t.Pyth = [12]int{48, -48, 12} }), api.ErrLarge},
		{"Pyth 49", with(func(t *api.Temperament) { t.Pyth = [12]int{49, -48, 11} }), api.ErrRange},
		{"Pyth -49", with(func(t *api.Temperament) { t.Pyth = [12]int{48, -49, 13} }), api.ErrRange},
		{"Synt 48 and -48", with(func(t *api.Temperament) { t.Synt = [12]int{48, -48} }), api.OK},
		{"Synt 49", with(func(t *api.Temperament) { t.Synt = [12]int{49, -48, -1} }), api.ErrRange},
		{"Synt -49", with(func(t *api.Temperament) { t.Synt = [12]int{48, -49, 1} }), api.ErrRange},
		{"Pyth 11", with(func(t *api.Temperament) { t.Pyth[3]-- }), api.ErrOpen},
		{"Pyth 13", with(func(t *api.Temperament) { t.Pyth[11]++ }), api.ErrOpen},
		{"Pyth 0", with(func(t *api.Temperament) { t.Pyth = [12]int{} }), api.ErrOpen},
		{"Synt -1", with(func(t *api.Temperament) { t.Synt[0]-- }), api.ErrOpen},
		{"Synt 1", with(func(t *api.Temperament) { t.Synt[11]++ }), api.ErrOpen},
		{"Synt 3, Pyth 11", with(func(t *api.Temperament) { t.Synt[0] += 3; t.Pyth[0]-- }), api.ErrOpen},
		{"a spread of 300", spread300()[0], api.OK},
		{"the second one", spread300()[1], api.OK},
		{"the third one", spread300()[2], api.OK},
		{"a spread of 301", spread301(), api.ErrLarge},
		{"a spread of 304", spread304(), api.ErrLarge},
		{"a wrong name ahead of a wrong number", api.Temperament{Name: "-", Pyth: [12]int{99}}, api.ErrName},
		{"a wrong number ahead of an open circle", api.Temperament{Name: "a", Synt: [12]int{11: -49}}, api.ErrRange},
		{"an open circle ahead of a spread", api.Temperament{Name: "a", Pyth: [12]int{48}}, api.ErrOpen},
	} {
		wantErr(t, c.what, temper.CheckTemperament(c.t), c.want)
	}
	for i := range 12 {
		for _, n := range []int{extremes[0], -49, 49, extremes[len(extremes)-1]} {
			wantErr(t, "a wrong Pyth", temper.CheckTemperament(with(func(t *api.Temperament) { t.Pyth[i] = n })), api.ErrRange)
			wantErr(t, "a wrong Synt", temper.CheckTemperament(with(func(t *api.Temperament) { t.Synt[i] = n })), api.ErrRange)
		}
	}
}

// What the tests take for spreads is what the chapter says.
func TestSpreads(t *testing.T) {
	for n, want := range [][3]int{{300, 244, 40}, {264, 300, 90}, {300, 60, 108}} {
		if got := spreadOf(spread300()[n]); got != want {
			t.Errorf("spread300, %d: %v, want %v", n, got, want)
		}
	}
	if got := spreadOf(spread301()); got != [3]int{301, 196, 24} {
		t.Error("spread301:", got)
	}
	if got := spreadOf(spread304()); got != [3]int{296, 304, 79} {
		t.Error("spread304:", got)
	}
}

// P6.1: a spread that is too great is the only error of circles that close.
func TestRandomSpreads(t *testing.T) {
	r := dice()
	large := 0
	for range 3000 {
		x := api.Temperament{Name: "any"}
		most := from(r, 1, 20)
		for i := range 12 {
			x.Pyth[i], x.Synt[i] = from(r, -most, most), from(r, -most, most)
		}
		x.Pyth, x.Synt = summedTo(r, x.Pyth, 12), summedTo(r, x.Synt, 0)
		want := api.OK
		if s := spreadOf(x); slices.Max(s[:]) > 300 {
			want = api.ErrLarge
			large++
		}
		if e := temper.CheckTemperament(x); e != want {
			t.Fatal(x, e, want)
		}
	}
	if large < 300 || large > 2700 {
		t.Error("too large:", large, "of 3000")
	}
}

// P6.1: the named temperaments, fifth by fifth.
func TestNamed(t *testing.T) {
	for _, want := range []api.Temperament{
		{Name: "equal", Pyth: [12]int{1, 1, 1, 1, 1, 1, 1, 1, 1, 1, 1, 1}},
		{Name: "pythagoras", Pyth: [12]int{0, 0, 0, 0, 0, 0, 0, 0, 12, 0, 0, 0}},
		{Name: "meantone", Pyth: [12]int{0, 0, 0, 0, 0, 0, 0, 0, 12, 0, 0, 0}, Synt: [12]int{3, 3, 3, 3, 3, 3, 3, 3, -33, 3, 3, 3}},
		{Name: "werckmeister", Pyth: [12]int{3, 3, 3, 0, 0, 3, 0, 0, 0, 0, 0, 0}},
		{Name: "kirnberger", Pyth: [12]int{0, 0, 0, 0, 0, 0, 12, 0, 0, 0, 0, 0}, Synt: [12]int{3, 3, 3, 3, 0, 0, -12, 0, 0, 0, 0, 0}},
		{Name: "vallotti", Pyth: [12]int{2, 2, 2, 2, 2, 0, 0, 0, 0, 0, 0, 2}},
		{Name: "young", Pyth: [12]int{2, 2, 2, 2, 2, 2, 0, 0, 0, 0, 0, 0}},
	} {
		if got, e := temper.Named(want.Name); got != want || e != api.OK {
			t.Errorf("%s: %v, error %d, want %v", want.Name, got, e, want)
		}
		wantErr(t, want.Name, temper.CheckTemperament(want), api.OK)
	}
	for _, name := range []string{"", " ", "just", "Equal", "equal ", " equal", "equa", "equals", "EQUAL", "kirnberger3", "young\n", "\xff"} {
		if got, e := temper.Named(name); got != (api.Temperament{}) || e != api.ErrMissing {
			t.Errorf("%q: %v, error %d", name, got, e)
		}
	}
}

// P6.1: the fifths of a rotated temperament.
func TestRotated(t *testing.T) {
	vallotti, young := named(t, "vallotti"), named(t, "young")
	young.Name = "vallotti"
	if got, e := temper.Rotated(vallotti, 11); got != young || e != api.OK {
		t.Error("vallotti by 11 is young:", got, e)
	}
	for _, c := range []struct {
		fifths     int
		pyth, synt [12]int
	}{
		{0, [12]int{6: 12}, [12]int{3, 3, 3, 3, 0, 0, -12, 0, 0, 0, 0, 0}},
		{1, [12]int{5: 12}, [12]int{3, 3, 3, 0, 0, -12, 0, 0, 0, 0, 0, 3}},
		{5, [12]int{1: 12}, [12]int{0, -12, 0, 0, 0, 0, 0, 3, 3, 3, 3, 0}},
		{11, [12]int{7: 12}, [12]int{0, 3, 3, 3, 3, 0, 0, -12, 0, 0, 0, 0}},
	} {
		want := api.Temperament{Name: "kirnberger", Pyth: c.pyth, Synt: c.synt}
		if got, e := temper.Rotated(named(t, "kirnberger"), c.fifths); got != want || e != api.OK {
			t.Errorf("kirnberger by %d: %v, error %d, want %v", c.fifths, got, e, want)
		}
	}
	for _, fifths := range extremes {
		want := api.OK
		if fifths < 0 || fifths > 11 {
			want = api.ErrRange
		}
		got, e := temper.Rotated(vallotti, fifths)
		if wantErr(t, "Rotated", e, want); e != api.OK && got != (api.Temperament{}) {
			t.Error("Rotated:", got, "beside an error")
		}
	}
	if got, e := temper.Rotated(turnsWide(), 1); got != (api.Temperament{}) || e != api.ErrLarge {
		t.Error("too great a spread:", got, e)
	}
	if _, e := temper.Rotated(turnsWide(), 12); e != api.ErrRange {
		t.Error("fifths come ahead of the spread:", e)
	}
}

// P6.10: rotated by the rest of the circle a temperament is itself again.
func TestRotatedBack(t *testing.T) {
	r := dice()
	wide := 0
	for _, x := range someTemperaments(t, r, 100) {
		for fifths := 1; fifths < 12; fifths++ {
			rotated, e := temper.Rotated(x, fifths)
			if e == api.ErrLarge {
				wide++
				continue
			}
			wantErr(t, "a rotated temperament", temper.CheckTemperament(rotated), e)
			if again, e := temper.Rotated(rotated, 12-fifths); again != x || e != api.OK {
				t.Fatal(x, fifths, rotated, again, e)
			}
		}
	}
	if wide == 0 || wide > 500 {
		t.Error("too great a spread behind", wide, "rotations")
	}
}
