package temper_test

import (
	"math/rand/v2"
	"slices"
	"testing"

	"agraffe/api"
	"agraffe/temper"
)

// P6.4: the consonances, and nothing else.
func TestRatioOf(t *testing.T) {
	want := map[int][2]int{
		3: {6, 5}, 4: {5, 4}, 5: {4, 3}, 7: {3, 2}, 8: {8, 5}, 9: {5, 3}, 12: {2, 1},
		15: {12, 5}, 16: {5, 2}, 17: {8, 3}, 19: {3, 1}, 24: {4, 1}, 28: {5, 1},
	}
	check := func(semitones int) {
		p, q, e := temper.RatioOf(semitones)
		r, known := want[semitones]
		if [2]int{p, q} != r || (e == api.OK) != known || !known && e != api.ErrNone {
			t.Errorf("%d: %d, %d, error %d, want %v", semitones, p, q, e, r)
		}
	}
	for semitones := -90; semitones <= 90; semitones++ {
		check(semitones)
	}
	for _, semitones := range extremes {
		check(semitones)
	}
}

// P6.4: what is accepted, and the first error of what is not.
func TestCheckTest(t *testing.T) {
	for _, c := range []struct {
		b    api.BeatTest
		want api.Errno
	}{
		{beat(0, 87, 1, 1), api.OK},
		{beat(0, 1, 16, 16), api.OK},
		{beat(86, 87, 15, 16), api.OK},
		{beat(36, 43, 3, 2), api.OK},
		{beat(-1, 5, 1, 1), api.ErrRange},
		{beat(88, 89, 1, 1), api.ErrRange},
		{beat(1, 88, 1, 1), api.ErrRange},
		{beat(1, -1, 1, 1), api.ErrRange},
		{beat(1, 5, 0, 1), api.ErrRange},
		{beat(1, 5, 1, 0), api.ErrRange},
		{beat(1, 5, 17, 1), api.ErrRange},
		{beat(1, 5, 1, 17), api.ErrRange},
		{beat(1, 5, -1, 1), api.ErrRange},
		{beat(5, 5, 1, 1), api.ErrOrder},
		{beat(6, 5, 1, 1), api.ErrOrder},
		{beat(87, 0, 1, 1), api.ErrOrder},
		{beat(6, 5, 0, 1), api.ErrRange},
		{beat(6, 5, 7, 17), api.ErrRange},
		{beat(5, 5, 7, 1), api.ErrOrder},
		{api.BeatTest{}, api.ErrRange},
	} {
		wantErr(t, "CheckTest", temper.CheckTest(c.b), c.want)
	}
	for n := 1; n <= 16; n++ {
		want := api.OK
		if slices.Contains([]int{7, 11, 13, 14}, n) {
			want = api.ErrKind
		}
		wantErr(t, "P", temper.CheckTest(beat(1, 5, n, 1)), want)
		wantErr(t, "Q", temper.CheckTest(beat(1, 5, 1, n)), want)
	}
	for _, n := range extremes {
		note, partial := api.ErrRange, api.ErrRange
		if n >= 0 && n < 87 {
			note = api.OK
		}
		if n >= 1 && n <= 16 {
			partial = temper.CheckTest(beat(0, 1, n, 1))
		}
		wantErr(t, "Low", temper.CheckTest(beat(n, 87, 1, 1)), map[bool]api.Errno{true: api.ErrOrder, false: note}[n == 87])
		wantErr(t, "P", temper.CheckTest(beat(0, 1, n, 1)), partial)
		wantErr(t, "Q", temper.CheckTest(beat(0, 1, 1, n)), partial)
	}
}

// P6.4: beats that are known.
func TestKnownBeats(t *testing.T) {
	for _, c := range []struct {
		name   string
		fork   int
		b      api.BeatTest
		want   api.Range
		purity int
	}{
		{"equal", 440000, beat(39, 43, 5, 4), span(10382, 10384), 1},
		{"equal", 440000, beat(36, 43, 3, 2), span(-745, -744), -1},
		{"meantone", 440000, beat(39, 43, 5, 4), span(-1, 1), 0},
		{"pythagoras", 440000, beat(36, 43, 3, 2), span(0, 0), 0},
		{"pythagoras", 440000, beat(48, 55, 3, 2), span(0, 0), 0},
		{"equal", 440000, beat(36, 48, 2, 1), span(0, 0), 0},
		{"equal", 440000, beat(36, 48, 1, 1), span(220000, 220000), 1},
		{"equal", 440000, beat(36, 48, 16, 1), span(-3080000, -3080000), -1},
		{"equal", 1000000, beat(0, 84, 1, 16), span(127937500, 127937500), 1},
		{"equal", 1, beat(0, 1, 1, 1), span(-1, 1), 1},
	} {
		x := named(t, c.name)
		if got, e := temper.Beats(x, c.fork, c.b); got != c.want || e != api.OK {
			t.Errorf("%s, %d, %v: %v, error %d, want %v", c.name, c.fork, c.b, got, e, c.want)
		}
		if got, e := temper.Purity(x, c.b); got != c.purity || e != api.OK {
			t.Errorf("%s, %v: purity %d, error %d, want %d", c.name, c.b, got, e, c.purity)
		}
	}
}

var partials = []int{1, 2, 3, 4, 5, 6, 8, 9, 10, 12, 15, 16}

func randomTest(r *rand.Rand) api.BeatTest {
	low := r.IntN(87)
	return beat(low, from(r, low+1, 87), partials[r.IntN(len(partials))], partials[r.IntN(len(partials))])
}

// consonant is a test of a consonance, which is close to pure in many temperaments.
func consonant(r *rand.Rand) api.BeatTest {
	for {
		low, high := r.IntN(88), r.IntN(88)
		if p, q, e := temper.RatioOf(high - low); e == api.OK {
			return beat(low, high, p, q)
		}
	}
}

// P6.4, P6.12: the range of beats is that of the chapter, and goes with the purity.
func TestBeats(t *testing.T) {
	r := dice()
	count := map[int]int{}
	for _, x := range someTemperaments(t, r, 60) {
		for range 20 {
			b, fork := randomTest(r), from(r, 1, 1000000)
			if r.IntN(2) == 0 {
				b = consonant(r)
			}
			high, low := enclosed(between(x, 48, b.High), fork*b.Q), enclosed(between(x, 48, b.Low), fork*b.P)
			got, e := temper.Beats(x, fork, b)
			if got != span(high.Lo-low.Hi, high.Hi-low.Lo) || e != api.OK {
				t.Fatal(x, fork, b, got, high, low, e)
			}
			purity, e := temper.Purity(x, b)
			if purity != beyond(between(x, b.Low, b.High), b.P, b.Q) || e != api.OK {
				t.Fatal(x, b, purity, e)
			}
			if purity >= 0 && got.Hi < 0 || purity <= 0 && got.Lo > 0 {
				t.Fatal(x, b, purity, got)
			}
			count[purity]++
		}
	}
	if count[-1] < 50 || count[0] < 50 || count[1] < 50 {
		t.Error("too few of a purity:", count)
	}
}

// P6.4: purity is exact, also where a partial times a pitch would be no pitch.
func TestPurityAtTheLimits(t *testing.T) {
	for _, p := range partials {
		for _, q := range partials {
			b := beat(0, 87, p, q)
			if got, e := temper.Purity(utmost(), b); got != beyond(between(utmost(), 0, 87), p, q) || e != api.OK {
				t.Error(b, got, e)
			}
		}
	}
}

// P6.4: errors of arguments.
func TestErrorsOfBeats(t *testing.T) {
	equal, third := named(t, "equal"), beat(39, 43, 5, 4)
	for _, c := range []struct {
		what string
		fork int
		b    api.BeatTest
		want api.Errno
	}{
		{"a fork of 0", 0, third, api.ErrRange},
		{"a fork below 0", -1, third, api.ErrRange},
		{"the least fork", 1, third, api.OK},
		{"the greatest fork", 1000000, third, api.OK},
		{"too great a fork", 1000001, third, api.ErrRange},
		{"no note", 1, beat(-1, 43, 5, 4), api.ErrRange},
		{"wrong order", 1, beat(43, 39, 5, 4), api.ErrOrder},
		{"a seventh partial", 1, beat(39, 43, 7, 4), api.ErrKind},
		{"the fork ahead of the test", 0, beat(43, 39, 5, 4), api.ErrRange},
	} {
		got, e := temper.Beats(equal, c.fork, c.b)
		if wantErr(t, c.what, e, c.want); (got == api.Range{}) != (e != api.OK) && c.fork != 1 {
			t.Error(c.what, got, e)
		}
		_, e = temper.Rises(equal, c.fork, []api.BeatTest{third, c.b})
		wantErr(t, c.what, e, c.want)
	}
	for b, want := range map[api.BeatTest]api.Errno{
		beat(-1, 43, 5, 4): api.ErrRange,
		beat(43, 39, 5, 4): api.ErrOrder,
		beat(39, 43, 5, 7): api.ErrKind,
	} {
		if got, e := temper.Purity(equal, b); got != 0 || e != want {
			t.Error("Purity:", b, got, e, want)
		}
		if got, e := temper.Beats(equal, 440000, b); got != (api.Range{}) || e != want {
			t.Error("Beats:", b, got, e, want)
		}
	}
}

// P6.5: lists of tests.
func TestTestsOf(t *testing.T) {
	for _, c := range []struct {
		semitones, low, high int
		want                 []api.BeatTest
		e                    api.Errno
	}{
		{4, 39, 44, []api.BeatTest{beat(39, 43, 5, 4), beat(40, 44, 5, 4)}, api.OK},
		{4, 39, 43, []api.BeatTest{beat(39, 43, 5, 4)}, api.OK},
		{4, 39, 42, nil, api.OK},
		{4, 39, 39, nil, api.OK},
		{28, 58, 87, []api.BeatTest{beat(58, 86, 5, 1), beat(59, 87, 5, 1)}, api.OK},
		{28, 0, 28, []api.BeatTest{beat(0, 28, 5, 1)}, api.OK},
		{3, 0, 4, []api.BeatTest{beat(0, 3, 6, 5), beat(1, 4, 6, 5)}, api.OK},
		{4, 43, 39, nil, api.ErrOrder},
		{4, -1, 39, nil, api.ErrRange},
		{4, 88, 39, nil, api.ErrRange},
		{4, 39, 88, nil, api.ErrRange},
		{4, 39, -1, nil, api.ErrRange},
		{6, 39, 44, nil, api.ErrNone},
		{0, 39, 44, nil, api.ErrNone},
		{-4, 39, 44, nil, api.ErrNone},
		{6, -1, 88, nil, api.ErrNone},
	} {
		if got, e := temper.TestsOf(c.semitones, c.low, c.high); !slices.Equal(got, c.want) || e != c.e {
			t.Errorf("%d, %d, %d: %v, error %d, want %v, error %d", c.semitones, c.low, c.high, got, e, c.want, c.e)
		}
	}
	for semitones := range 88 {
		p, q, none := temper.RatioOf(semitones)
		l, e := temper.TestsOf(semitones, 0, 87)
		if e != none || e == api.OK && len(l) != 88-semitones {
			t.Error(semitones, l, e, none)
		}
		for low, b := range l {
			if b != beat(low, low+semitones, p, q) || temper.CheckTest(b) != api.OK {
				t.Error(semitones, low, b)
			}
		}
	}
}

// P6.5: what rises, and what does not.
func TestKnownRises(t *testing.T) {
	equal := named(t, "equal")
	thirds, _ := temper.TestsOf(4, 32, 60)
	fifths, _ := temper.TestsOf(7, 32, 60)
	octaves, _ := temper.TestsOf(12, 0, 87)
	reversed := slices.Clone(thirds)
	slices.Reverse(reversed)
	for _, c := range []struct {
		what string
		fork int
		l    []api.BeatTest
		want bool
	}{
		{"nothing", 440000, nil, true},
		{"an empty list", 440000, []api.BeatTest{}, true},
		{"one test", 440000, thirds[:1], true},
		{"thirds", 440000, thirds, true},
		{"thirds downwards", 440000, reversed, false},
		{"a third twice", 440000, []api.BeatTest{thirds[0], thirds[1], thirds[1]}, false},
		{"a fall at the first", 440000, []api.BeatTest{thirds[1], thirds[0], thirds[2]}, false},
		{"narrow fifths, by their sizes", 440000, fifths, true},
		{"a wide third behind a narrow fifth", 440000, []api.BeatTest{fifths[0], thirds[0]}, true},
		{"a narrow fifth behind a wide third", 440000, []api.BeatTest{thirds[0], fifths[0]}, false},
		{"octaves, which are pure", 440000, octaves[:2], false},
		{"a third behind an octave", 440000, []api.BeatTest{octaves[0], thirds[0]}, true},
		{"a fork too low to prove it", 1, thirds[:2], false},
	} {
		if got, e := temper.Rises(equal, c.fork, c.l); got != c.want || e != api.OK {
			t.Errorf("%s: %t, error %d", c.what, got, e)
		}
	}
}

// P6.5: Rises holds the sizes of ranges against each other.
func TestRises(t *testing.T) {
	r := dice()
	count := map[bool]int{}
	for _, x := range someTemperaments(t, r, 40) {
		for range 10 {
			fork := from(r, 1, 1000)
			l := []api.BeatTest{consonant(r), consonant(r)}
			if r.IntN(3) == 0 {
				l = append(l, consonant(r))
			}
			want := true
			above := -1
			for _, b := range l {
				beats, _ := temper.Beats(x, fork, b)
				least, greatest := 1<<60, 0
				for n := beats.Lo; n <= beats.Hi; n++ {
					least, greatest = min(least, max(n, -n)), max(greatest, n, -n)
				}
				want = want && least > above
				above = greatest
			}
			if got, e := temper.Rises(x, fork, l); got != want || e != api.OK {
				t.Fatal(x, fork, l, got, want, e)
			}
			count[want]++
		}
	}
	if count[true] < 50 || count[false] < 50 {
		t.Error("too few:", count)
	}
}

// P6.5: errors of lists of tests.
func TestErrorsOfRises(t *testing.T) {
	equal := named(t, "equal")
	many := slices.Repeat([]api.BeatTest{beat(39, 43, 5, 4)}, 100)
	for _, c := range []struct {
		what string
		l    []api.BeatTest
		want api.Errno
	}{
		{"100 tests", many, api.OK},
		{"101 tests", append(slices.Clone(many), many[0]), api.ErrLarge},
		{"101 tests, the first of which is wrong", append([]api.BeatTest{{}}, many...), api.ErrLarge},
		{"no note", []api.BeatTest{many[0], beat(-1, 5, 1, 1)}, api.ErrRange},
		{"the first of two wrong ones", []api.BeatTest{beat(5, 5, 1, 1), beat(-1, 5, 1, 1)}, api.ErrOrder},
		{"a wrong one behind tests that fall", []api.BeatTest{beat(40, 44, 5, 4), beat(39, 43, 5, 4), beat(1, 5, 7, 1)}, api.ErrKind},
	} {
		if got, e := temper.Rises(equal, 440000, c.l); got || e != c.want {
			t.Errorf("%s: %t, error %d, want %d", c.what, got, e, c.want)
		}
	}
	if _, e := temper.Rises(equal, 0, append(slices.Clone(many), many[0])); e != api.ErrRange {
		t.Error("the fork comes ahead of the tests:", e)
	}
}
