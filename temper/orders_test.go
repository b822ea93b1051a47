package temper_test

import (
	"math/rand/v2"
	"slices"
	"testing"

	"agraffe/api"
	"agraffe/temper"
)

// bearings are those of the chapter's example.
func bearings() []api.TuneStep {
	return []api.TuneStep{
		step(48, 36), step(36, 43), step(43, 38), step(38, 33), step(33, 40), step(40, 35), step(35, 42),
		step(42, 37), step(37, 44), step(44, 39), step(39, 34), step(34, 41), step(44, 32),
	}
}

// P6.7: the bearings.
func TestBearings(t *testing.T) {
	for range 2 {
		l := temper.Bearings()
		if !slices.Equal(l, bearings()) {
			t.Error(l)
		}
		for n := range append(l, step(1, 1)) {
			append(l, step(1, 1))[n] = step(2, 2)
		}
	}
	if e := temper.CheckOrder(temper.Bearings(), 32, 48); e != api.ErrGap {
		t.Error("45 to 47 are not tuned:", e)
	}
}

// P6.7: octaves upwards, then downwards.
func TestOrder(t *testing.T) {
	for _, c := range []struct {
		low, high int
		behind    []api.TuneStep
	}{
		{32, 48, []api.TuneStep{step(33, 45), step(34, 46), step(35, 47)}},
		{31, 49, []api.TuneStep{step(33, 45), step(34, 46), step(35, 47), step(37, 49), step(43, 31)}},
		{29, 48, []api.TuneStep{step(33, 45), step(34, 46), step(35, 47), step(43, 31), step(42, 30), step(41, 29)}},
	} {
		if got, e := temper.Order(c.low, c.high); !slices.Equal(got, append(bearings(), c.behind...)) || e != api.OK {
			t.Errorf("%d, %d: %v, error %d", c.low, c.high, got, e)
		}
	}
	l, e := temper.Order(0, 87)
	if len(l) != 87 || e != api.OK {
		t.Fatal("all notes:", l, e)
	}
	if l[54] != step(75, 87) || l[55] != step(43, 31) || l[86] != step(12, 0) {
		t.Error("all notes:", l)
	}
}

// P6.7, P6.12: each order is accepted for its notes, and for no others.
func TestOrdersAreAccepted(t *testing.T) {
	for low := range 33 {
		for high := 48; high < 88; high++ {
			l, e := temper.Order(low, high)
			if e != api.OK {
				t.Fatal(low, high, e)
			}
			wantErr(t, "the order", temper.CheckOrder(l, low, high), api.OK)
			wantErr(t, "without the last step", temper.CheckOrder(l[:len(l)-1], low, high), api.ErrGap)
			if low < 32 {
				wantErr(t, "a note less", temper.CheckOrder(l, low+1, high), api.ErrRange)
			}
			if low > 0 {
				wantErr(t, "a note more", temper.CheckOrder(l, low-1, high), api.ErrGap)
			}
		}
	}
}

// P6.7: notes that are not in the range of an order.
func TestRangesOfOrders(t *testing.T) {
	for _, n := range append(extremes, 31, 32, 33, 46, 47) {
		low, high := api.OK, api.OK
		if n < 0 || n > 32 {
			low = api.ErrRange
		}
		if n < 48 || n > 87 {
			high = api.ErrRange
		}
		l, e := temper.Order(n, 87)
		if wantErr(t, "low", e, low); (len(l) == 0) != (e != api.OK) {
			t.Error("low", n, l, e)
		}
		l, e = temper.Order(0, n)
		if wantErr(t, "high", e, high); (len(l) == 0) != (e != api.OK) {
			t.Error("high", n, l, e)
		}
	}
}

// P6.7: what is accepted, and the first error of what is not.
func TestCheckOrder(t *testing.T) {
	octaves := []api.TuneStep{step(48, 60), step(48, 36)}
	fifths := []api.TuneStep{step(48, 55), step(55, 50), step(48, 52), step(55, 51), step(52, 49), step(50, 54), step(50, 53)}
	for _, c := range []struct {
		what      string
		l         []api.TuneStep
		low, high int
		want      api.Errno
	}{
		{"the fork alone", nil, 48, 48, api.OK},
		{"no step for another note", nil, 48, 49, api.ErrGap},
		{"no step for a note below", nil, 47, 48, api.ErrGap},
		{"steps up and down", fifths, 48, 55, api.OK},
		{"low below 0", nil, -1, 48, api.ErrRange},
		{"low above 87", nil, 88, 48, api.ErrRange},
		{"high above 87", nil, 48, 88, api.ErrRange},
		{"high below 0", nil, 48, -1, api.ErrRange},
		{"the fork below low", nil, 49, 87, api.ErrRange},
		{"the fork above high", nil, 0, 47, api.ErrRange},
		{"low above high", nil, 50, 40, api.ErrRange},
		{"low above high, around the fork", nil, 49, 47, api.ErrRange},
		{"no range ahead of too many steps", slices.Repeat(octaves, 51), 49, 87, api.ErrRange},
		{"100 steps", slices.Repeat(octaves, 50), 36, 60, api.ErrExists},
		{"101 steps", append(slices.Repeat(octaves, 50), step(-1, -1)), 36, 60, api.ErrLarge},
		{"101 steps, the first of which is wrong", append([]api.TuneStep{step(-1, -1)}, slices.Repeat(octaves, 50)...), 36, 60, api.ErrLarge},
		{"To above high", octaves, 36, 59, api.ErrRange},
		{"To below low", octaves, 37, 60, api.ErrRange},
		{"From above high", []api.TuneStep{step(61, 60)}, 36, 60, api.ErrRange},
		{"From below low", []api.TuneStep{step(35, 60)}, 36, 60, api.ErrRange},
		{"a step from the end", append(octaves, step(60, 57)), 36, 60, api.ErrGap},
		{"From is not tuned", []api.TuneStep{step(36, 60)}, 36, 60, api.ErrState},
		{"From is tuned later", []api.TuneStep{step(55, 50), step(48, 55)}, 36, 60, api.ErrState},
		{"From is To, not tuned", []api.TuneStep{step(50, 50)}, 36, 60, api.ErrState},
		{"From is To, tuned", []api.TuneStep{step(48, 48)}, 36, 60, api.ErrExists},
		{"the fork again", append(octaves, step(60, 48)), 36, 60, api.ErrExists},
		{"a note again", append(octaves, step(60, 36)), 36, 60, api.ErrExists},
		{"a tritone", []api.TuneStep{step(48, 42)}, 36, 60, api.ErrKind},
		{"a tritone upwards", []api.TuneStep{step(48, 54)}, 36, 60, api.ErrKind},
		{"a semitone", []api.TuneStep{step(48, 47)}, 36, 60, api.ErrKind},
		{"From is not tuned ahead of To is", []api.TuneStep{step(36, 48)}, 36, 60, api.ErrState},
		{"From is not tuned ahead of a tritone", []api.TuneStep{step(36, 42)}, 36, 60, api.ErrState},
		{"To is tuned, and two notes away", append(octaves, step(48, 55), step(48, 53), step(53, 55)), 36, 60, api.ErrExists},
		{"To is out of range ahead of From is not tuned", []api.TuneStep{step(36, 61)}, 36, 60, api.ErrRange},
		{"a wrong step ahead of a gap", []api.TuneStep{step(48, 49)}, 0, 87, api.ErrKind},
		{"the first of two wrong steps", []api.TuneStep{step(48, 49), step(-1, 99)}, 0, 87, api.ErrKind},
	} {
		wantErr(t, c.what, temper.CheckOrder(c.l, c.low, c.high), c.want)
	}
	for to := range 88 {
		_, _, none := temper.RatioOf(max(to-48, 48-to))
		want := api.ErrGap
		if to == 48 {
			want = api.ErrExists
		} else if none != api.OK {
			want = api.ErrKind
		}
		wantErr(t, "one step", temper.CheckOrder([]api.TuneStep{step(48, to)}, 0, 87), want)
	}
}

// P6.8: what is derived, and by what way.
func TestKnownDerived(t *testing.T) {
	equal, pythagoras := named(t, "equal"), named(t, "pythagoras")
	all, _ := temper.Order(0, 87)
	for _, c := range []struct {
		what string
		t    api.Temperament
		l    []api.TuneStep
		note int
		want api.Pitch
		way  []int
	}{
		{"the example", equal, bearings(), 38, pitch(-5, 0, 0, 6), []int{48, 36, 43, 38}},
		{"the fork", equal, bearings(), 48, pitch(0, 0, 0, 1), []int{48}},
		{"the fork of no order", equal, nil, 48, pitch(0, 0, 0, 1), []int{48}},
		{"the first step", pythagoras, bearings(), 36, pitch(-1, 0, 0, 1), []int{48, 36}},
		{"a step past a branch", pythagoras, bearings(), 32, pitch(5, -4, 0, 1), []int{48, 36, 43, 38, 33, 40, 35, 42, 37, 44, 32}},
		{"a step over the wolf", pythagoras, bearings(), 34, pitch(2, -2, 0, 1), []int{48, 36, 43, 38, 33, 40, 35, 42, 37, 44, 39, 34}},
		{"the highest note", equal, all, 87, pitch(13, 0, 0, 4), []int{48, 36, 43, 38, 33, 40, 35, 42, 37, 44, 39, 51, 63, 75, 87}},
		{"the lowest note", equal, all, 0, pitch(-4, 0, 0, 1), []int{48, 36, 24, 12, 0}},
	} {
		got, way, e := temper.Derived(c.t, c.l, c.note)
		if got != c.want || !slices.Equal(way, c.way) || e != api.OK {
			t.Errorf("%s: %v by %v, error %d, want %v by %v", c.what, got, way, e, c.want, c.way)
		}
	}
}

// P6.8: errors of temperaments, then those of steps, then those of notes.
func TestErrorsOfDerived(t *testing.T) {
	equal := named(t, "equal")
	octaves := []api.TuneStep{step(48, 60), step(48, 36)}
	for _, c := range []struct {
		what string
		l    []api.TuneStep
		note int
		want api.Errno
	}{
		{"a note that is not tuned", bearings(), 45, api.ErrMissing},
		{"a note of no order", nil, 47, api.ErrMissing},
		{"a gap is no error", octaves, 60, api.OK},
		{"a note below 0", octaves, -1, api.ErrRange},
		{"a note above 87", octaves, 88, api.ErrRange},
		{"100 steps", slices.Repeat(octaves, 50), 88, api.ErrExists},
		{"101 steps", append(slices.Repeat(octaves, 50), step(-1, -1)), 88, api.ErrLarge},
		{"From below 0", []api.TuneStep{step(-1, 36)}, 88, api.ErrRange},
		{"To above 87", []api.TuneStep{step(48, 88)}, 48, api.ErrRange},
		{"From is not tuned", []api.TuneStep{step(36, 48)}, 88, api.ErrState},
		{"To is tuned", append(octaves, step(36, 48)), 88, api.ErrExists},
		{"no consonance", []api.TuneStep{step(48, 54)}, 88, api.ErrKind},
		{"a wrong step behind the note", append(octaves, step(48, 54)), 60, api.ErrKind},
		{"a step to the lowest note", []api.TuneStep{step(48, 24), step(24, 0)}, 0, api.OK},
		{"a step to the highest note", []api.TuneStep{step(48, 76), step(76, 84), step(84, 87)}, 87, api.OK},
	} {
		p, way, e := temper.Derived(equal, c.l, c.note)
		if wantErr(t, c.what, e, c.want); e != api.OK && (p != (api.Pitch{}) || len(way) > 0) {
			t.Error(c.what, p, way, "beside an error")
		}
	}
}

// randomOrder tunes notes from notes that are tuned by then, in any order.
func randomOrder(r *rand.Rand) []api.TuneStep {
	var l []api.TuneStep
	tuned := []int{48}
	for range 400 {
		from, to := tuned[r.IntN(len(tuned))], r.IntN(88)
		if _, _, e := temper.RatioOf(max(from-to, to-from)); e == api.OK && !slices.Contains(tuned, to) {
			l, tuned = append(l, step(from, to)), append(tuned, to)
		}
	}
	return l
}

// P6.12: by whatever order a note is tuned, its pitch is the same; and the way to it goes by steps of the order.
func TestDerivedOnce(t *testing.T) {
	r := dice()
	for _, x := range someTemperaments(t, r, 60) {
		l := randomOrder(r)
		for note := range 88 {
			want := api.ErrMissing
			if note == 48 || slices.ContainsFunc(l, func(s api.TuneStep) bool { return s.To == note }) {
				want = api.OK
			}
			p, way, e := temper.Derived(x, l, note)
			if e != want {
				t.Fatal(l, note, e, want)
			}
			if e != api.OK {
				continue
			}
			if whole, _ := temper.PitchOf(x, note); p != whole {
				t.Fatal(x, l, note, p, whole)
			}
			if way[0] != 48 || way[len(way)-1] != note {
				t.Fatal(l, note, way)
			}
			for n, next := range way[1:] {
				if !slices.Contains(l, step(way[n], next)) {
					t.Fatal(l, note, way)
				}
			}
		}
	}
}
