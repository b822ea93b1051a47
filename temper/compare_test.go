package temper_test

import (
	"slices"
	"testing"

	"agraffe/api"
	"agraffe/temper"
)

// P6.6: the named temperaments.
func TestWellAndWidest(t *testing.T) {
	for _, c := range []struct {
		name   string
		well   bool
		widest int
	}{
		{"equal", true, 0},
		{"pythagoras", true, 0},
		{"meantone", false, 1},
		{"werckmeister", true, 1},
		{"kirnberger", true, 1},
		{"vallotti", true, 1},
		{"young", true, 1},
	} {
		x := named(t, c.name)
		if got, e := temper.Well(x); got != c.well || e != api.OK {
			t.Errorf("%s: well %t, error %d", c.name, got, e)
		}
		if got, e := temper.Widest(x); got != c.widest || e != api.OK {
			t.Errorf("%s: widest %d, error %d, want %d", c.name, got, e, c.widest)
		}
	}
}

// P6.6: a single wide fifth makes a temperament not well, by however little. (Without one no third is too wide.)
func TestNotWell(t *testing.T) {
	for _, c := range []struct {
		what string
		t    api.Temperament
		want bool
	}{
		// 1/12 of a comma wide, in the midst of narrow ones: no third is wide.
		{"a wide fifth", api.Temperament{Name: "a", Pyth: [12]int{2, 2, -1, 2, 1, 1, 1, 1, 1, 1, 1, 0}}, false},
		{"a fifth that is wide by the syntonic comma", api.Temperament{Name: "a", Pyth: [12]int{1, 1, 1, 1, 1, 1, 1, 1, 1, 1, 1, 1}, Synt: [12]int{1, -2, 1}}, false},
		{"a fifth that both commas leave narrow", api.Temperament{Name: "a", Pyth: [12]int{1, 1, 1, 1, 1, 1, 1, 1, 1, 1, 1, 1}, Synt: [12]int{1, -1}}, true},
		// The Pythagorean comma is greater than the syntonic one, by the schisma.
		{"a fifth that is narrow by the schisma", api.Temperament{Name: "a", Pyth: [12]int{12}, Synt: [12]int{-12, 3, 3, 3, 3}}, true},
		{"a fifth that is wide by the schisma", api.Temperament{Name: "a", Pyth: [12]int{0: -12, 1: 12, 11: 12}, Synt: [12]int{0: 12, 1: -12, 3: 12, 11: -12}}, false},
	} {
		if got, e := temper.Well(c.t); got != c.want || e != api.OK {
			t.Errorf("%s: %t, error %d", c.what, got, e)
		}
	}
}

// thirdOn adds up the fifths from the class on, one by one.
func thirdOn(x api.Temperament, class int) [3]int {
	first := 0
	for 7*first%12 != class {
		first++
	}
	third := [3]int{-24, 0, 0}
	for i := range 4 {
		for n, by := range ratioOf(x, (first+i)%12) {
			third[n] += by
		}
	}
	return third
}

// P6.6: fifths and thirds are held against 3/2 and 81/64, and thirds against each other.
func TestWell(t *testing.T) {
	r := dice()
	count := map[bool]int{}
	check := func(x api.Temperament) {
		well, widest := true, 0
		for i := range 12 {
			if beyond(ratioOf(x, i), 3, 2) > 0 || beyond(thirdOn(x, i), 81, 64) > 0 {
				well = false
			}
			if sign(quotient(thirdOn(x, i), thirdOn(x, widest))) > 0 {
				widest = i
			}
		}
		if got, e := temper.Well(x); got != well || e != api.OK {
			t.Fatal(x, "well", got, well, e)
		}
		if got, e := temper.Widest(x); got != widest || e != api.OK {
			t.Fatal(x, "widest", got, widest, e)
		}
		count[well]++
	}
	for _, x := range someTemperaments(t, r, 300) {
		check(x)
	}
	for range 300 {
		x := api.Temperament{Name: "narrow"}
		for i := range 12 {
			x.Synt[i] = r.IntN(2)
		}
		x.Synt = summedTo(r, x.Synt, 0)
		x.Pyth = summedTo(r, x.Pyth, 12)
		check(x)
	}
	if count[true] < 50 || count[false] < 50 {
		t.Error("too few:", count)
	}
}

// P6.6: orders of classes over the A.
func TestAgainst(t *testing.T) {
	for _, c := range []struct {
		a, b string
		want []int
	}{
		{"equal", "equal", make([]int, 12)},
		// From A on, pure fifths bring E, B, F sharp and so on above those of equal temperament.
		{"equal", "pythagoras", []int{1, -1, 1, 1, -1, 1, -1, 1, -1, 0, 1, -1}},
		{"pythagoras", "equal", []int{-1, 1, -1, -1, 1, -1, 1, -1, 1, 0, -1, 1}},
		{"equal", "meantone", []int{-1, 1, -1, -1, 1, -1, 1, -1, 1, 0, -1, 1}},
	} {
		if got, e := temper.Against(named(t, c.a), named(t, c.b)); !slices.Equal(got, c.want) || e != api.OK {
			t.Errorf("%s against %s: %v, error %d, want %v", c.a, c.b, got, e, c.want)
		}
	}
	r := dice()
	l := someTemperaments(t, r, 60)
	for _, a := range l {
		b := l[r.IntN(len(l))]
		got, e := temper.Against(a, b)
		if len(got) != 12 || e != api.OK {
			t.Fatal(a, b, got, e)
		}
		for class := range 12 {
			x, y := quotient(overC(a, class), overC(a, 9)), quotient(overC(b, class), overC(b, 9))
			if got[class] != sign(quotient(x, y)) {
				t.Fatal(a, b, class, got)
			}
		}
	}
}

// Different twelfths may come to the same pitch of a class: Against tells only the pitches.
func TestAgainstByPitches(t *testing.T) {
	a := api.Temperament{Name: "a", Pyth: [12]int{2, 2, 2, 2, 2, 2}}
	b := api.Temperament{Name: "b", Pyth: [12]int{2, 1, 3, 2, 2, 2}}
	// G and D are the classes behind the first two fifths: of them D alone is another one, and A stays.
	if got, e := temper.Against(a, b); !slices.Equal(got, []int{0, 0, -1, 0, 0, 0, 0, 0, 0, 0, 0, 0}) || e != api.OK {
		t.Error(got, e)
	}
	if got, e := temper.Against(a, changed(a, func(t *api.Temperament) { t.Name = "other" })); !slices.Equal(got, make([]int, 12)) || e != api.OK {
		t.Error("another name:", got, e)
	}
}

// R1: the errors of the first temperament come first.
func TestErrorsOfAgainst(t *testing.T) {
	equal := named(t, "equal")
	for want, bad := range badTemperaments() {
		for other, worse := range badTemperaments() {
			if got, e := temper.Against(bad, worse); len(got) > 0 || e != want {
				t.Error("both are wrong:", got, e, want, other)
			}
		}
		if got, e := temper.Against(equal, bad); len(got) > 0 || e != want {
			t.Error("the second one is wrong:", got, e, want)
		}
	}
}
