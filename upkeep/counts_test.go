package upkeep_test

import (
	"slices"
	"testing"

	"agraffe/api"
	"agraffe/temper"
	"agraffe/upkeep"
)

// P7.1: what is accepted, and the first error of what is not.
func TestCheckTests(t *testing.T) {
	first := three()[0]
	for _, c := range []struct {
		what string
		l    []api.BeatTest
		want api.Errno
	}{
		{"nothing", nil, api.OK},
		{"the example", three(), api.OK},
		{"60 tests", chain(60), api.OK},
		{"61 tests", chain(61), api.ErrLarge},
		{"61 tests ahead of their errors", make([]api.BeatTest, 61), api.ErrLarge},
		{"no note", []api.BeatTest{first, beat(-1, 5, 1, 1)}, api.ErrRange},
		{"no partial", []api.BeatTest{first, beat(1, 5, 17, 1)}, api.ErrRange},
		{"a high note that is low", []api.BeatTest{first, beat(5, 1, 1, 1)}, api.ErrOrder},
		{"a seventh partial", []api.BeatTest{first, beat(1, 5, 1, 7)}, api.ErrKind},
		{"the same test", []api.BeatTest{first, first}, api.ErrExists},
		{"the same test, far apart", append(three(), first), api.ErrExists},
		{"another low note", []api.BeatTest{first, beat(35, 43, 3, 2)}, api.OK},
		{"another high note", []api.BeatTest{first, beat(36, 44, 3, 2)}, api.OK},
		{"another P", []api.BeatTest{first, beat(36, 43, 6, 2)}, api.OK},
		{"another Q", []api.BeatTest{first, beat(36, 43, 3, 4)}, api.OK},
		{"the same ratio", []api.BeatTest{first, beat(36, 43, 6, 4)}, api.OK},
		{"a wrong test twice", []api.BeatTest{beat(5, 5, 1, 1), beat(5, 5, 1, 1)}, api.ErrOrder},
		{"a test twice ahead of a wrong one", []api.BeatTest{first, first, beat(-1, 5, 1, 1)}, api.ErrExists},
		{"a wrong test ahead of one twice", []api.BeatTest{first, beat(1, 5, 7, 1), first}, api.ErrKind},
	} {
		wantErr(t, c.what, upkeep.CheckTests(c.l), c.want)
		wantErr(t, c.what+", as counts", upkeep.CheckCounts(countsOf(c.l)), c.want)
		got, e := upkeep.Predicted(named(t, "equal"), 440000, c.l)
		if wantErr(t, c.what+", predicted", e, c.want); e == api.OK && len(got) != len(c.l) || e != api.OK && len(got) > 0 {
			t.Error(c.what, "predicted:", got)
		}
	}
}

// P7.1: what is accepted, and the first error of what is not.
func TestCheckCounts(t *testing.T) {
	a, b := three()[0], three()[1]
	for _, c := range []struct {
		what string
		l    []api.BeatCount
		want api.Errno
	}{
		{"one number", []api.BeatCount{count(a, -5, -5)}, api.OK},
		{"all numbers", []api.BeatCount{count(a, -1000000000, 1000000000)}, api.OK},
		{"the greatest number", []api.BeatCount{count(a, 1000000000, 1000000000)}, api.OK},
		{"the least number", []api.BeatCount{count(a, -1000000000, -1000000000)}, api.OK},
		{"too low a Lo", []api.BeatCount{count(a, -1000000001, 0)}, api.ErrRange},
		{"too high a Lo", []api.BeatCount{count(a, 1000000001, 0)}, api.ErrRange},
		{"too low a Hi", []api.BeatCount{count(a, 0, -1000000001)}, api.ErrRange},
		{"too high a Hi", []api.BeatCount{count(a, 0, 1000000001)}, api.ErrRange},
		{"the wrong order", []api.BeatCount{count(a, 1, 0)}, api.ErrOrder},
		{"equal tests with other beats", []api.BeatCount{count(a, 0, 0), count(b, 0, 0), count(a, 1, 1)}, api.ErrExists},
		{"a wrong test ahead of wrong beats", []api.BeatCount{count(beat(1, 5, 7, 1), 1000000001, 0)}, api.ErrKind},
		{"a test twice ahead of wrong beats", []api.BeatCount{count(a, 0, 0), count(a, 1000000001, 0)}, api.ErrExists},
		{"wrong beats ahead of a later test", []api.BeatCount{count(a, 1, 0), count(beat(1, 5, 7, 1), 0, 0)}, api.ErrOrder},
		{"wrong beats ahead of later ones", []api.BeatCount{count(a, 0, 1), count(b, 1000000001, 0), count(three()[2], 1, 0)}, api.ErrRange},
	} {
		wantErr(t, c.what, upkeep.CheckCounts(c.l), c.want)
		if got, e := upkeep.Failed(named(t, "equal"), 440000, c.l); e != c.want || e != api.OK && len(got) > 0 {
			t.Errorf("%s: failed %v, error %d, want %d", c.what, got, e, c.want)
		}
		if got, e := upkeep.Print(c.l); e != c.want || (got == "") != (e != api.OK) {
			t.Errorf("%s: printed %q, error %d, want %d", c.what, got, e, c.want)
		}
	}
}

// P7.1: the beats of all tests, in their order.
func TestPredicted(t *testing.T) {
	for _, name := range []string{"equal", "werckmeister", "meantone"} {
		for _, fork := range []int{1, 440000, 1000000} {
			for _, l := range [][]api.BeatTest{nil, three(), chain(60)} {
				got, e := upkeep.Predicted(named(t, name), fork, l)
				if e != api.OK || len(got) != len(l) {
					t.Fatal(name, fork, got, e)
				}
				for n, b := range l {
					if want, _ := temper.Beats(named(t, name), fork, b); got[n] != want {
						t.Error(name, fork, b, got[n], want)
					}
				}
			}
		}
	}
	got, e := upkeep.Predicted(named(t, "equal"), 440000, append([]api.BeatTest{beat(39, 43, 5, 4)}, three()[0]))
	if e != api.OK || !slices.Equal(got, []api.Range{span(10382, 10384), span(-745, -744)}) {
		t.Error(got, e)
	}
}

// P7.1: errors of temperaments and forks come ahead of those of lists.
func TestErrorsOfPredictions(t *testing.T) {
	equal := named(t, "equal")
	open := equal
	open.Pyth[0]++
	for _, c := range []struct {
		what string
		x    api.Temperament
		fork int
		l    []api.BeatTest
		want api.Errno
	}{
		{"no name", api.Temperament{}, 0, chain(61), api.ErrName},
		{"an open circle", open, 0, chain(61), api.ErrOpen},
		{"a fork of 0", equal, 0, chain(61), api.ErrRange},
		{"a fork below 0", equal, -440000, three(), api.ErrRange},
		{"too great a fork", equal, 1000001, three(), api.ErrRange},
		{"the least fork", equal, 1, chain(61), api.ErrLarge},
		{"the greatest fork", equal, 1000000, chain(61), api.ErrLarge},
	} {
		got, e := upkeep.Predicted(c.x, c.fork, c.l)
		if wantErr(t, c.what, e, c.want); len(got) > 0 {
			t.Error(c.what, got)
		}
		failed, e := upkeep.Failed(c.x, c.fork, countsOf(c.l))
		if wantErr(t, c.what, e, c.want); len(failed) > 0 {
			t.Error(c.what, failed)
		}
	}
}

// P7.1: a count fails if it has no number in common with what is predicted, which is -745 to -744 here.
func TestFailed(t *testing.T) {
	equal, fifth := named(t, "equal"), three()[0]
	for _, c := range []struct {
		low, high int
		fails     bool
	}{
		{-745, -744, false}, {-745, -745, false}, {-744, -744, false}, {-744, 0, false}, {-900, -745, false}, {-900, 900, false},
		{-746, -746, true}, {-743, -743, true}, {-900, -746, true}, {-743, 900, true}, {744, 745, true}, {0, 0, true},
	} {
		got, e := upkeep.Failed(equal, 440000, []api.BeatCount{count(fifth, c.low, c.high)})
		if wantErr(t, "Failed", e, api.OK); len(got) > 1 || (len(got) == 1) != c.fails {
			t.Error(c, got)
		}
	}
	l := countsOf(append([]api.BeatTest{beat(36, 48, 2, 1)}, three()...))
	got, e := upkeep.Failed(equal, 440000, l)
	wantList(t, "all but the octave", got, e, 1, 2, 3)
	l[2].Heard = span(-1000000, 1000000)
	got, e = upkeep.Failed(equal, 440000, l)
	wantList(t, "and the third", got, e, 1, 3)
	got, e = upkeep.Failed(equal, 440000, nil)
	wantList(t, "no counts", got, e)
	got, e = upkeep.Failed(named(t, "pythagoras"), 440000, l[:2])
	wantList(t, "another temperament", got, e)
}

// P7.2: what is heard.
func TestHeard(t *testing.T) {
	s := []api.Sounding{sounding(36, 220000, 220003), sounding(40, 277000, 277010), sounding(43, 330500, 330600)}
	got, e := upkeep.Heard(s, []api.BeatTest{beat(40, 43, 6, 5), beat(36, 43, 3, 2)})
	want := []api.BeatCount{
		count(beat(40, 43, 6, 5), 5*330500-6*277010, 5*330600-6*277000),
		count(beat(36, 43, 3, 2), 661000-660009, 661200-660000),
	}
	if e != api.OK || !slices.Equal(got, want) {
		t.Error(got, e, want)
	}
	got, e = upkeep.Heard([]api.Sounding{sounding(36, 220000, 220000), sounding(43, 330500, 330500)}, three()[:1])
	if e != api.OK || !slices.Equal(got, []api.BeatCount{count(three()[0], 1000, 1000)}) {
		t.Error("the example:", got, e)
	}
	got, e = upkeep.Heard([]api.Sounding{sounding(0, 1, 20000000), sounding(87, 1, 20000000)}, []api.BeatTest{beat(0, 87, 16, 16)})
	if e != api.OK || !slices.Equal(got, []api.BeatCount{count(beat(0, 87, 16, 16), 16-320000000, 320000000-16)}) || upkeep.CheckCounts(got) != api.OK {
		t.Error("the greatest beats:", got, e)
	}
}

// scaleOf is the notes as they should be.
func scaleOf(t *testing.T, x api.Temperament, fork int) []api.Sounding {
	t.Helper()
	frequencies, e := temper.Scale(x, fork)
	wantErr(t, "Scale", e, api.OK)
	var s []api.Sounding
	for note, f := range frequencies {
		s = append(s, api.Sounding{Note: note, Freq: f})
	}
	return s
}

// P7.2: the first error.
func TestErrorsOfHeard(t *testing.T) {
	all := scaleOf(t, named(t, "equal"), 440000)
	for _, c := range []struct {
		what string
		s    []api.Sounding
		l    []api.BeatTest
		want api.Errno
	}{
		{"nothing", nil, nil, api.OK},
		{"no tests", all, nil, api.OK},
		{"88 soundings", all, three(), api.OK},
		{"89 soundings", append(slices.Clone(all), all[87]), three(), api.ErrLarge},
		{"89 soundings ahead of their errors", make([]api.Sounding, 89), chain(61), api.ErrLarge},
		{"a note below 0", []api.Sounding{sounding(-1, 1, 1)}, three(), api.ErrRange},
		{"the note 88", []api.Sounding{sounding(88, 1, 1)}, three(), api.ErrRange},
		{"a Lo of 0", []api.Sounding{sounding(1, 0, 1)}, three(), api.ErrRange},
		{"too great a Lo", []api.Sounding{sounding(1, 20000001, 1)}, three(), api.ErrRange},
		{"a Hi of 0", []api.Sounding{sounding(1, 1, 0)}, three(), api.ErrRange},
		{"too great a Hi", []api.Sounding{sounding(1, 1, 20000001)}, three(), api.ErrRange},
		{"the greatest frequency", []api.Sounding{sounding(1, 20000000, 20000000)}, nil, api.OK},
		{"a Lo above Hi", []api.Sounding{sounding(1, 2, 1)}, three(), api.ErrOrder},
		{"the same note", []api.Sounding{sounding(1, 1, 1), sounding(1, 1, 1)}, three(), api.ErrOrder},
		{"a lower note", []api.Sounding{sounding(2, 1, 1), sounding(1, 1, 1)}, three(), api.ErrOrder},
		{"a lower note ahead of a wrong one", []api.Sounding{sounding(2, 1, 1), sounding(1, 1, 1), sounding(-1, 1, 1)}, three(), api.ErrOrder},
		{"a wrong note, though it is lower", []api.Sounding{sounding(2, 1, 1), sounding(-1, 1, 1)}, three(), api.ErrRange},
		{"soundings ahead of tests", []api.Sounding{sounding(2, 2, 1)}, chain(61), api.ErrOrder},
		{"61 tests", all, chain(61), api.ErrLarge},
		{"a test twice", nil, append(three(), three()[2]), api.ErrExists},
		{"no soundings", nil, three(), api.ErrMissing},
		{"no low note", all[37:], three(), api.ErrMissing},
		{"no high note", all[:43], three(), api.ErrMissing},
		{"no note between", slices.Delete(slices.Clone(all), 40, 41), three(), api.ErrMissing},
		{"no note of no test", slices.Delete(slices.Clone(all), 41, 42), three(), api.OK},
	} {
		got, e := upkeep.Heard(c.s, c.l)
		if wantErr(t, c.what, e, c.want); e == api.OK && len(got) != len(c.l) || e != api.OK && len(got) > 0 {
			t.Error(c.what, got)
		}
	}
}

// P7.10: a scale as it should be fails nowhere, and a wrong string lets its tests fail.
func TestHeardAsItShouldBe(t *testing.T) {
	r := dice()
	for _, name := range []string{"equal", "pythagoras", "meantone", "werckmeister", "kirnberger", "vallotti", "young"} {
		x, fork := named(t, name), from(r, 50, 1000000)
		s := scaleOf(t, x, fork)
		for range 10 {
			l := randomTests(r, 50, 60)
			counts, e := upkeep.Heard(s, l)
			wantErr(t, "Heard", e, api.OK)
			failed, e := upkeep.Failed(x, fork, counts)
			wantList(t, name, failed, e)
		}
		l := append(three(), beat(48, 52, 5, 4))
		s[40].Freq = span(s[40].Freq.Lo+50, s[40].Freq.Hi+50)
		counts, e := upkeep.Heard(s, l)
		wantErr(t, "Heard", e, api.OK)
		failed, e := upkeep.Failed(x, fork, counts)
		wantList(t, name+" with a wrong string", failed, e, 1, 2)
		least, e := upkeep.Least(l[:3], failed)
		if e != api.OK || len(least) != 1 || !slices.Equal(least[0], []int{40}) {
			t.Error(name, least, e)
		}
	}
}
