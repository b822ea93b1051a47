package upkeep_test

import (
	"cmp"
	"math/rand/v2"
	"slices"
	"testing"

	"agraffe/api"
	"agraffe/upkeep"
)

// P7.5: what is accepted, and the first error of what is not.
func TestCheckOverpull(t *testing.T) {
	var many []api.Overpull
	for n := range 21 {
		many = append(many, overpull(n, n, n))
	}
	for _, c := range []struct {
		what string
		l    []api.Overpull
		want api.Errno
	}{
		{"nothing", nil, api.OK},
		{"all notes", []api.Overpull{overpull(0, 87, 500)}, api.OK},
		{"no overpull", []api.Overpull{overpull(5, 5, 0)}, api.OK},
		{"two lines", []api.Overpull{overpull(5, 7, 1), overpull(8, 8, 2)}, api.OK},
		{"20 lines", many[:20], api.OK},
		{"21 lines", many, api.ErrLarge},
		{"21 lines ahead of their errors", slices.Repeat([]api.Overpull{overpull(-1, 0, 0)}, 21), api.ErrLarge},
		{"From below 0", []api.Overpull{overpull(-1, 5, 1)}, api.ErrRange},
		{"From 88", []api.Overpull{overpull(88, 88, 1)}, api.ErrRange},
		{"To below 0", []api.Overpull{overpull(0, -1, 1)}, api.ErrRange},
		{"To 88", []api.Overpull{overpull(0, 88, 1)}, api.ErrRange},
		{"PerMille below 0", []api.Overpull{overpull(0, 5, -1)}, api.ErrRange},
		{"PerMille 501", []api.Overpull{overpull(0, 5, 501)}, api.ErrRange},
		{"PerMille 501 ahead of the order", []api.Overpull{overpull(5, 0, 501)}, api.ErrRange},
		{"To below From", []api.Overpull{overpull(5, 4, 1)}, api.ErrOrder},
		{"a note twice", []api.Overpull{overpull(0, 5, 1), overpull(5, 6, 1)}, api.ErrOrder},
		{"a line within another one", []api.Overpull{overpull(0, 50, 1), overpull(5, 6, 1)}, api.ErrOrder},
		{"descending lines", []api.Overpull{overpull(5, 6, 1), overpull(0, 4, 1)}, api.ErrOrder},
		{"descending lines ahead of a wrong one", []api.Overpull{overpull(5, 6, 1), overpull(0, 4, 1), overpull(-1, 0, 0)}, api.ErrOrder},
		{"a wrong line ahead of descending ones", []api.Overpull{overpull(5, 88, 1), overpull(0, 4, 1)}, api.ErrRange},
	} {
		wantErr(t, c.what, upkeep.CheckOverpull(c.l), c.want)
		n, e := upkeep.OverpullAt(c.l, 88)
		if wantErr(t, c.what+", at a wrong note", e, cmp.Or(c.want, api.ErrRange)); c.want == api.OK && n != 0 {
			t.Error(c.what, n)
		}
		l, e := upkeep.Raise(c.l, make([]int, 88), 0)
		if wantErr(t, c.what+", raised", e, c.want); e != api.OK && len(l) > 0 {
			t.Error(c.what, l)
		}
	}
	for _, n := range extremes {
		note, perMille := api.ErrRange, api.ErrRange
		if n >= 0 && n <= 87 {
			note = api.OK
		}
		if n >= 0 && n <= 500 {
			perMille = api.OK
		}
		wantErr(t, "From and To", upkeep.CheckOverpull([]api.Overpull{overpull(n, n, 1)}), note)
		wantErr(t, "PerMille", upkeep.CheckOverpull([]api.Overpull{overpull(1, 1, n)}), perMille)
	}
}

// P7.5: the line that has a note.
func TestOverpullAt(t *testing.T) {
	l := []api.Overpull{overpull(0, 9, 100), overpull(10, 10, 200), overpull(20, 87, 300)}
	for note, want := range map[int]int{0: 100, 5: 100, 9: 100, 10: 200, 11: 0, 19: 0, 20: 300, 50: 300, 87: 300} {
		n, e := upkeep.OverpullAt(l, note)
		wantNumber(t, "OverpullAt", n, e, want)
		n, e = upkeep.OverpullAt(nil, note)
		wantNumber(t, "OverpullAt without lines", n, e, 0)
	}
	for _, note := range []int{-1, 88, extremes[0], extremes[len(extremes)-1]} {
		n, e := upkeep.OverpullAt(l, note)
		if wantErr(t, "no note", e, api.ErrRange); n != 0 {
			t.Error(note, n)
		}
	}
}

// missingAt is what is missing of one note.
func missingAt(note, cents int) []int {
	l := make([]int, 88)
	l[note] = cents
	return l
}

// P7.5: by how much notes are raised.
func TestRaise(t *testing.T) {
	l := []api.Overpull{overpull(0, 9, 250), overpull(10, 87, 333)}
	for _, c := range []struct{ note, missing, most, want int }{
		{5, 10000, 200000, 12500},
		{5, 10000, 2500, 12500},
		{5, 10000, 2499, 12499},
		{5, 10000, 2000, 12000},
		{5, 10000, 0, 10000},
		{5, 0, 200000, 0},
		{5, 3, 200000, 3},
		{5, 4, 200000, 5},
		{5, 7, 200000, 8},
		{10, 1000, 200000, 1333},
		{10, 200000, 200000, 266600},
		{87, 3, 200000, 3},
		{87, 4, 200000, 5},
	} {
		got, e := upkeep.Raise(l, missingAt(c.note, c.missing), c.most)
		wantList(t, "Raise", got, e, missingAt(c.note, c.want)...)
	}
	got, e := upkeep.Raise(nil, missingAt(7, 200000), 200000)
	wantList(t, "without lines", got, e, missingAt(7, 200000)...)
}

// P7.5: the first error.
func TestErrorsOfRaise(t *testing.T) {
	with := func(changes ...[2]int) []int {
		l := make([]int, 88)
		for _, c := range changes {
			l[c[0]] = c[1]
		}
		return l
	}
	for _, c := range []struct {
		what    string
		missing []int
		most    int
		want    api.Errno
	}{
		{"87 notes", make([]int, 87), 0, api.ErrShape},
		{"89 notes", make([]int, 89), 0, api.ErrShape},
		{"no notes", nil, 0, api.ErrShape},
		{"87 notes ahead of wrong numbers", with([2]int{0, -1})[:87], -1, api.ErrShape},
		{"less than nothing", with([2]int{0, -1}), 0, api.ErrRange},
		{"less than nothing at the end", with([2]int{87, -1}), 0, api.ErrRange},
		{"200000 everywhere", slices.Repeat([]int{200000}, 88), 200000, api.OK},
		{"200001", with([2]int{50, 200001}), 0, api.ErrRange},
		{"at most less than nothing", with(), -1, api.ErrRange},
		{"at most 200001", with(), 200001, api.ErrRange},
	} {
		l, e := upkeep.Raise([]api.Overpull{overpull(0, 87, 500)}, c.missing, c.most)
		if wantErr(t, c.what, e, c.want); e != api.OK && len(l) > 0 {
			t.Error(c.what, l)
		}
		_, e = upkeep.Raise([]api.Overpull{overpull(5, 4, 0)}, c.missing, c.most)
		wantErr(t, "the table ahead of "+c.what, e, api.ErrOrder)
	}
}

// P7.5: passes that are known.
func TestKnownPasses(t *testing.T) {
	for _, c := range []struct {
		missing, drop, tolerance, want int
		e                              api.Errno
	}{
		{10000, 200, 500, 2, api.OK},
		{10000, 200, 400, 2, api.OK},
		{10000, 200, 399, 3, api.OK},
		{10000, 200, 2000, 1, api.OK},
		{10000, 200, 1999, 2, api.OK},
		{10000, 200, 10000, 0, api.OK},
		{10000, 200, 9999, 1, api.OK},
		{0, 999, 0, 0, api.OK},
		{0, 0, 200000, 0, api.OK},
		{200000, 0, 0, 1, api.OK},
		{200000, 999, 200000, 0, api.OK},
		{200000, 999, 199999, 1, api.OK},
		{200000, 999, 999, 5870, api.OK},
		{200000, 999, 998, 0, api.ErrNone},
		{1, 1, 0, 0, api.ErrNone},
		{1, 0, 0, 1, api.OK},
		{2, 500, 1, 1, api.OK},
		{2, 501, 1, 0, api.ErrNone},
		{3, 500, 1, 2, api.OK},
		{200000, 500, 1, 18, api.OK},
		{200000, 500, 0, 0, api.ErrNone},
		{-1, 0, 0, 0, api.ErrRange},
		{200001, 0, 0, 0, api.ErrRange},
		{1, -1, 5, 0, api.ErrRange},
		{1, 1000, 5, 0, api.ErrRange},
		{1, 1, -1, 0, api.ErrRange},
		{1, 1, 200001, 0, api.ErrRange},
	} {
		if n, e := upkeep.Passes(c.missing, c.drop, c.tolerance); e != c.e || n != c.want {
			t.Errorf("%v: %d, error %d", c, n, e)
		}
	}
}

// passesOf goes on until the number of passes is greater than any that may be needed: what is missing is less behind
// each one, or it is never less again.
func passesOf(missing, drop, tolerance int) (int, api.Errno) {
	for passes := range 200001 {
		if missing <= tolerance {
			return passes, api.OK
		}
		next := (missing*drop + 999) / 1000
		if next >= missing {
			break
		}
		missing = next
	}
	return 0, api.ErrNone
}

// P7.5, P7.13: passes as the chapter counts them, and more missing never needs fewer.
func TestPasses(t *testing.T) {
	r := dice()
	count := map[api.Errno]int{}
	for range 3000 {
		missing, drop, tolerance := from(r, 0, 200000), from(r, 0, 999), from(r, 0, 1+r.IntN(2000))
		if r.IntN(3) == 0 {
			missing = from(r, 0, 50)
			tolerance = from(r, 0, 3)
		}
		want, wantError := passesOf(missing, drop, tolerance)
		n, e := upkeep.Passes(missing, drop, tolerance)
		if n != want || e != wantError {
			t.Fatal(missing, drop, tolerance, n, e, want, wantError)
		}
		count[e]++
		more, e2 := upkeep.Passes(from(r, missing, 200000), drop, tolerance)
		if e == api.ErrNone && e2 == api.OK || e == api.OK && e2 == api.OK && more < n {
			t.Fatal(missing, drop, tolerance, n, e, more, e2)
		}
	}
	if count[api.OK] < 300 || count[api.ErrNone] < 300 {
		t.Error("too few:", count)
	}
}

// randomOverpull is a table in order; raised is one with at least as much overpull for each note.
func randomOverpull(r *rand.Rand) (l, raised []api.Overpull) {
	for note := 0; note < 80; note += from(r, 1, 15) {
		o := overpull(note, from(r, note, note+7), from(r, 0, 500))
		note = o.To
		l = append(l, o)
		o.PerMille = from(r, o.PerMille, 500)
		raised = append(raised, o)
	}
	return l, raised
}

// P7.5, P7.13: notes are raised as the chapter says, and more overpull never raises less.
func TestMoreOverpull(t *testing.T) {
	r := dice()
	for range 300 {
		l, raised := randomOverpull(r)
		missing, most := make([]int, 88), from(r, 0, 100000)
		for note := range missing {
			missing[note] = from(r, 0, 200000)
		}
		a, e := upkeep.Raise(l, missing, most)
		wantErr(t, "Raise", e, api.OK)
		b, e := upkeep.Raise(raised, missing, most)
		wantErr(t, "Raise", e, api.OK)
		for note, m := range missing {
			perMille, _ := upkeep.OverpullAt(l, note)
			over := m * perMille / 1000
			if over > most {
				over = most
			}
			if a[note] != m+over || b[note] < a[note] {
				t.Fatal(l, note, m, most, a[note], b[note])
			}
		}
	}
}
