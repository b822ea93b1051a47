package temper_test

import (
	"testing"

	"agraffe/api"
	"agraffe/number"
	"agraffe/temper"
)

// P6.2: the pitches that the examples name, and others that are known.
func TestKnownPitches(t *testing.T) {
	for _, c := range []struct {
		what, name string
		call       func(t api.Temperament) (api.Pitch, api.Errno)
		want       api.Pitch
	}{
		{"a fifth", "equal", func(t api.Temperament) (api.Pitch, api.Errno) { return temper.Fifth(t, 0) }, pitch(7, 0, 0, 12)},
		{"the last fifth", "equal", func(t api.Temperament) (api.Pitch, api.Errno) { return temper.Fifth(t, 11) }, pitch(7, 0, 0, 12)},
		{"a pure fifth", "pythagoras", func(t api.Temperament) (api.Pitch, api.Errno) { return temper.Fifth(t, 7) }, pitch(-1, 1, 0, 1)},
		{"the wolf", "pythagoras", func(t api.Temperament) (api.Pitch, api.Errno) { return temper.Fifth(t, 8) }, pitch(18, -11, 0, 1)},
		{"a meantone fifth", "meantone", func(t api.Temperament) (api.Pitch, api.Errno) { return temper.Fifth(t, 3) }, pitch(0, 0, 1, 4)},
		{"its wolf", "meantone", func(t api.Temperament) (api.Pitch, api.Errno) { return temper.Fifth(t, 8) }, pitch(28, 0, -11, 4)},
		{"E", "equal", func(t api.Temperament) (api.Pitch, api.Errno) { return temper.ClassOf(t, 4) }, pitch(1, 0, 0, 3)},
		{"C", "meantone", func(t api.Temperament) (api.Pitch, api.Errno) { return temper.ClassOf(t, 0) }, pitch(0, 0, 0, 1)},
		{"B", "pythagoras", func(t api.Temperament) (api.Pitch, api.Errno) { return temper.ClassOf(t, 11) }, pitch(-7, 5, 0, 1)},
		{"F", "pythagoras", func(t api.Temperament) (api.Pitch, api.Errno) { return temper.ClassOf(t, 5) }, pitch(2, -1, 0, 1)},
		{"a third", "pythagoras", func(t api.Temperament) (api.Pitch, api.Errno) { return temper.Third(t, 0) }, pitch(-6, 4, 0, 1)},
		{"a pure third", "meantone", func(t api.Temperament) (api.Pitch, api.Errno) { return temper.Third(t, 0) }, pitch(-2, 0, 1, 1)},
		{"a third over the wolf", "meantone", func(t api.Temperament) (api.Pitch, api.Errno) { return temper.Third(t, 11) }, pitch(5, 0, -2, 1)},
		{"a third over the wolf of fifths", "pythagoras", func(t api.Temperament) (api.Pitch, api.Errno) { return temper.Third(t, 8) }, pitch(13, -8, 0, 1)},
		{"a note", "equal", func(t api.Temperament) (api.Pitch, api.Errno) { return temper.PitchOf(t, 51) }, pitch(1, 0, 0, 4)},
		{"the fork", "young", func(t api.Temperament) (api.Pitch, api.Errno) { return temper.PitchOf(t, 48) }, pitch(0, 0, 0, 1)},
		{"the lowest note", "young", func(t api.Temperament) (api.Pitch, api.Errno) { return temper.PitchOf(t, 0) }, pitch(-4, 0, 0, 1)},
		{"the highest note", "pythagoras", func(t api.Temperament) (api.Pitch, api.Errno) { return temper.PitchOf(t, 87) }, pitch(8, -3, 0, 1)},
		{"an interval", "pythagoras", func(t api.Temperament) (api.Pitch, api.Errno) { return temper.Interval(t, 36, 43) }, pitch(-1, 1, 0, 1)},
		{"an interval downwards", "pythagoras", func(t api.Temperament) (api.Pitch, api.Errno) { return temper.Interval(t, 43, 36) }, pitch(1, -1, 0, 1)},
		{"no interval", "pythagoras", func(t api.Temperament) (api.Pitch, api.Errno) { return temper.Interval(t, 50, 50) }, pitch(0, 0, 0, 1)},
		{"the whole keyboard", "equal", func(t api.Temperament) (api.Pitch, api.Errno) { return temper.Interval(t, 0, 87) }, pitch(29, 0, 0, 4)},
	} {
		if got, e := c.call(named(t, c.name)); got != c.want || e != api.OK {
			t.Errorf("%s, %s: %v, error %d, want %v", c.name, c.what, got, e, c.want)
		}
	}
	if got, e := temper.Interval(utmost(), 0, 87); got.Two*12/got.Den != 396 || e != api.OK {
		t.Error("the widest exponents:", got, e)
	}
}

// P6.2: all pitches, in normal form.
func TestPitches(t *testing.T) {
	r := dice()
	for _, x := range someTemperaments(t, r, 60) {
		same := func(what string, got api.Pitch, e api.Errno, want [3]int) {
			t.Helper()
			if got != normalOf(want) || e != api.OK {
				t.Fatalf("%v, %s: %v, error %d, want %v", x, what, got, e, normalOf(want))
			}
		}
		for i := range 12 {
			p, e := temper.Fifth(x, i)
			same("a fifth", p, e, ratioOf(x, i))
			p, e = temper.ClassOf(x, i)
			same("a class", p, e, overC(x, i))
			// The fifth that begins at the class 7 i is the fifth i.
			third := [3]int{-24, 0, 0}
			for n := range 4 {
				third = quotient(third, quotient([3]int{}, ratioOf(x, (i+n)%12)))
			}
			p, e = temper.Third(x, 7*i%12)
			same("a third", p, e, third)
		}
		for note := range 88 {
			p, e := temper.PitchOf(x, note)
			same("a note", p, e, between(x, 48, note))
			other := r.IntN(88)
			p, e = temper.Interval(x, other, note)
			same("an interval", p, e, between(x, other, note))
		}
	}
}

// P6.2, P6.3: numbers that are none of a fifth, a class, a note, or a fork.
func TestRangesOfPitches(t *testing.T) {
	equal := named(t, "equal")
	want := func(n, low, high int) api.Errno {
		if n < low || n > high {
			return api.ErrRange
		}
		return api.OK
	}
	for _, n := range extremes {
		pitches := func(what string, p api.Pitch, e, want api.Errno) {
			t.Helper()
			if wantErr(t, what, e, want); (p == api.Pitch{}) != (e != api.OK) {
				t.Error(what, n, p, e)
			}
		}
		p, e := temper.Fifth(equal, n)
		pitches("Fifth", p, e, want(n, 0, 11))
		p, e = temper.Third(equal, n)
		pitches("Third", p, e, want(n, 0, 11))
		p, e = temper.ClassOf(equal, n)
		pitches("ClassOf", p, e, want(n, 0, 11))
		p, e = temper.PitchOf(equal, n)
		pitches("PitchOf", p, e, want(n, 0, 87))
		p, e = temper.Interval(equal, n, 87)
		pitches("Interval, low", p, e, want(n, 0, 87))
		p, e = temper.Interval(equal, 0, n)
		pitches("Interval, high", p, e, want(n, 0, 87))
		ranges := func(what string, r api.Range, e, want api.Errno) {
			t.Helper()
			if wantErr(t, what, e, want); (r == api.Range{}) != (e != api.OK) {
				t.Error(what, n, r, e)
			}
		}
		f, e := temper.Frequency(equal, n, 0)
		ranges("Frequency, fork", f, e, want(n, 1, 1000000))
		f, e = temper.Frequency(equal, 1, n)
		ranges("Frequency, note", f, e, want(n, 0, 87))
		l, e := temper.Scale(equal, n)
		if wantErr(t, "Scale", e, want(n, 1, 1000000)); (len(l) == 0) != (e != api.OK) {
			t.Error("Scale", n, l, e)
		}
	}
}

// P6.3: frequencies are enclosed as narrowly as whole numbers allow.
func TestFrequencies(t *testing.T) {
	for _, c := range []struct {
		name       string
		fork, note int
		want       api.Range
	}{
		{"equal", 440000, 51, span(523251, 523252)},
		{"equal", 440000, 48, span(440000, 440000)},
		{"equal", 440000, 0, span(27500, 27500)},
		{"equal", 440000, 87, span(4186009, 4186010)},
		{"pythagoras", 440000, 55, span(660000, 660000)},
		{"meantone", 1, 0, span(0, 1)},
		{"meantone", 1000000, 84, span(8000000, 8000000)},
	} {
		if got, e := temper.Frequency(named(t, c.name), c.fork, c.note); got != c.want || e != api.OK {
			t.Errorf("%s, %d, %d: %v, error %d, want %v", c.name, c.fork, c.note, got, e, c.want)
		}
	}
	r := dice()
	for _, x := range someTemperaments(t, r, 5) {
		fork := []int{1, 1000000, from(r, 1, 1000), from(r, 1, 1000000)}[r.IntN(4)]
		scale, e := temper.Scale(x, fork)
		if len(scale) != 88 || e != api.OK {
			t.Fatal(x, fork, scale, e)
		}
		for note := range 88 {
			if want := enclosed(between(x, 48, note), fork); scale[note] != want {
				t.Fatal(x, fork, note, scale[note], want)
			}
		}
		note := r.IntN(88)
		if got, e := temper.Frequency(x, fork, note); got != scale[note] || e != api.OK {
			t.Fatal(x, fork, note, got, scale[note], e)
		}
	}
}

// joined is the product of pitches.
func joined(t *testing.T, l ...api.Pitch) api.Pitch {
	t.Helper()
	product := pitch(0, 0, 0, 1)
	for _, p := range l {
		next, e := number.Join(product, p)
		if e != api.OK {
			t.Fatal(l, e)
		}
		product = next
	}
	return product
}

// P6.10: twelve fifths are seven octaves, and lead from class to class.
func TestCircleCloses(t *testing.T) {
	for _, x := range someTemperaments(t, dice(), 100) {
		var fifths, classes []api.Pitch
		for i := range 12 {
			f, e := temper.Fifth(x, i)
			wantErr(t, "Fifth", e, api.OK)
			c, e := temper.ClassOf(x, 7*i%12)
			wantErr(t, "ClassOf", e, api.OK)
			fifths, classes = append(fifths, f), append(classes, c)
		}
		if all := joined(t, fifths...); all != pitch(7, 0, 0, 1) {
			t.Fatal(x, all)
		}
		for i := range 12 {
			back, e := number.Power(classes[(i+1)%12], api.Frac{Num: -1, Den: 1})
			wantErr(t, "Power", e, api.OK)
			if rest := joined(t, classes[i], fifths[i], back); rest != pitch(0, 0, 0, 1) && rest != pitch(1, 0, 0, 1) {
				t.Fatal(x, i, rest)
			}
		}
	}
}

// P6.11: notes 12 apart, and intervals joined from note to note.
func TestIntervals(t *testing.T) {
	r := dice()
	for _, x := range someTemperaments(t, r, 40) {
		pitches := make([]api.Pitch, 88)
		for note := range pitches {
			pitches[note], _ = temper.PitchOf(x, note)
		}
		for note := range 76 {
			if joined(t, pitches[note], pitch(1, 0, 0, 1)) != pitches[note+12] {
				t.Fatal(x, note)
			}
		}
		for range 50 {
			low, middle, high := r.IntN(88), r.IntN(88), r.IntN(88)
			whole, _ := temper.Interval(x, low, high)
			if joined(t, pitches[low], whole) != pitches[high] {
				t.Fatal(x, low, high, whole)
			}
			first, _ := temper.Interval(x, low, middle)
			second, _ := temper.Interval(x, middle, high)
			if both, e := number.Join(first, second); both != whole || e != api.OK {
				t.Fatal(x, low, middle, high, first, second, whole)
			}
		}
	}
}

// P6.11: an octave's beats cannot be told from 0.
func TestOctavesBeats(t *testing.T) {
	r := dice()
	for _, x := range someTemperaments(t, r, 10) {
		note, fork := r.IntN(76), from(r, 1, 1000000)
		b, e := temper.Beats(x, fork, beat(note, note+12, 2, 1))
		if b.Lo > 0 || b.Hi < 0 || e != api.OK {
			t.Fatal(x, note, fork, b, e)
		}
	}
}
