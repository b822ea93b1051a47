package upkeep_test

import (
	"slices"
	"testing"

	"agraffe/api"
	"agraffe/upkeep"
)

// explains tells what Explains answers for a set of notes of the tests, counting the notes of each test.
func explains(l []api.BeatTest, failed, set []int) api.Errno {
	e := api.OK
	for n, b := range l {
		wrong := 0
		for _, note := range []int{b.Low, b.High} {
			if slices.Contains(set, note) {
				wrong++
			}
		}
		if slices.Contains(failed, n) && wrong == 0 {
			return api.ErrGap
		}
		if !slices.Contains(failed, n) && wrong == 1 {
			e = api.ErrClash
		}
	}
	return e
}

// allSets returns all sets of notes, the smaller ones first, and lexicographically among those of one size.
func allSets(notes []int) [][]int {
	sets := [][]int{nil}
	for _, note := range notes {
		for _, s := range sets {
			sets = append(sets, append(slices.Clone(s), note))
		}
	}
	slices.SortFunc(sets, func(a, b []int) int {
		if len(a) != len(b) {
			return len(a) - len(b)
		}
		return slices.Compare(a, b)
	})
	return sets
}

// smallest returns the smallest explanations.
func smallest(l []api.BeatTest, failed []int) [][]int {
	var found [][]int
	for _, s := range allSets(notesOf(l)) {
		if explains(l, failed, s) == api.OK && (len(found) == 0 || len(s) == len(found[0])) {
			found = append(found, s)
		}
	}
	return found
}

func equalSets(a, b [][]int) bool {
	return slices.EqualFunc(a, b, slices.Equal[[]int])
}

// P7.4: the examples, and others that are known.
func TestKnownExplanations(t *testing.T) {
	pairs := joined([2]int{1, 2}, [2]int{3, 4}, [2]int{5, 6})
	for _, c := range []struct {
		what     string
		l        []api.BeatTest
		failed   []int
		want     [][]int
		suspects []int
	}{
		{"the first example", three(), []int{0, 1}, [][]int{{36}}, []int{36}},
		{"the note 43", three(), []int{0, 2}, [][]int{{43}}, []int{43}},
		{"one test", three(), []int{0}, [][]int{{36, 40, 43}}, nil},
		{"all tests", three(), []int{0, 1, 2}, [][]int{{36, 40}, {36, 43}, {40, 43}}, nil},
		{"nothing failed", three(), nil, [][]int{{}}, nil},
		{"no tests", nil, nil, [][]int{{}}, nil},
		{"a test alone", three()[:1], []int{0}, [][]int{{36}, {43}}, []int{36, 43}},
		{"a test alone that did not fail", three()[:1], nil, [][]int{{}}, nil},
		{"pairs, of which one failed", pairs, []int{1}, [][]int{{3}, {4}}, []int{3, 4}},
		{"pairs, of which two failed", pairs, []int{0, 2}, [][]int{{1, 5}, {1, 6}, {2, 5}, {2, 6}}, nil},
		{"one of two tests of a pair", joined([2]int{1, 2}, [2]int{1, 2}), []int{0}, [][]int{{1, 2}}, nil},
		{"a chain", chain(11), []int{5}, [][]int{{0, 1, 2, 3, 4, 5}, {6, 7, 8, 9, 10, 11}}, nil},
		{"a chain at its end", chain(11), []int{10}, [][]int{{11}}, []int{11}},
	} {
		got, e := upkeep.Least(c.l, c.failed)
		if e != api.OK || !equalSets(got, c.want) {
			t.Errorf("%s: %v, error %d, want %v", c.what, got, e, c.want)
		}
		suspects, e := upkeep.Suspects(c.l, c.failed)
		wantList(t, c.what+", suspects", suspects, e, c.suspects...)
		for _, s := range got {
			wantErr(t, c.what, upkeep.Explains(c.l, c.failed, s), api.OK)
		}
	}
}

// P7.4: what is accepted, and the first error of what is not.
func TestExplains(t *testing.T) {
	for _, c := range []struct {
		what        string
		failed, set []int
		want        api.Errno
	}{
		{"the note of both", []int{0, 1}, []int{36}, api.OK},
		{"all notes", []int{0, 1}, []int{36, 40, 43}, api.OK},
		{"both others", []int{0, 1}, []int{40, 43}, api.OK},
		{"nothing", nil, nil, api.OK},
		{"all notes though nothing failed", nil, []int{36, 40, 43}, api.OK},
		{"no test -1", []int{-1}, nil, api.ErrMissing},
		{"no test 3", []int{3}, nil, api.ErrMissing},
		{"no test 3 ahead of the order", []int{1, 0, 3}, nil, api.ErrMissing},
		{"a test twice", []int{0, 0}, nil, api.ErrOrder},
		{"descending tests", []int{1, 0}, []int{99}, api.ErrOrder},
		{"descending tests at the end", []int{0, 2, 1}, nil, api.ErrOrder},
		{"no note", []int{0}, []int{-1}, api.ErrMissing},
		{"the note 88", []int{0}, []int{88}, api.ErrMissing},
		{"a note of no test", []int{0}, []int{35}, api.ErrMissing},
		{"a note of no test ahead of the order", []int{0}, []int{43, 36, 35}, api.ErrMissing},
		{"a note twice", []int{0, 1}, []int{36, 36}, api.ErrOrder},
		{"descending notes ahead of a gap", []int{0}, []int{43, 40}, api.ErrOrder},
		{"a gap", []int{0, 1}, []int{43}, api.ErrGap},
		{"a gap of an empty set", []int{2}, nil, api.ErrGap},
		{"a gap behind a clash", []int{1}, []int{43}, api.ErrGap},
		{"a gap ahead of a clash", []int{0}, []int{40}, api.ErrGap},
		{"a clash", []int{0}, []int{36}, api.ErrClash},
		{"a clash though nothing failed", nil, []int{36}, api.ErrClash},
		{"a clash of the last test", []int{0, 1}, []int{36, 43}, api.ErrClash},
	} {
		wantErr(t, c.what, upkeep.Explains(three(), c.failed, c.set), c.want)
	}
	wantErr(t, "no tests", upkeep.Explains(nil, nil, nil), api.OK)
	wantErr(t, "no tests, but a failed one", upkeep.Explains(nil, []int{0}, nil), api.ErrMissing)
	wantErr(t, "no tests, but a note", upkeep.Explains(nil, nil, []int{0}), api.ErrMissing)
	wantErr(t, "60 tests", upkeep.Explains(chain(60), []int{58, 59}, []int{59}), api.OK)
	wantErr(t, "60 tests with a gap", upkeep.Explains(chain(60), []int{59}, nil), api.ErrGap)
	wantErr(t, "60 tests with a clash", upkeep.Explains(chain(60), nil, []int{60}), api.ErrClash)
}

// P7.4, P7.11: what the definitions say, of random tests.
func TestExplanations(t *testing.T) {
	r := dice()
	sizes := map[int]int{}
	for range 1500 {
		l := randomTests(r, from(r, 2, 7), from(r, 0, 9))
		failed := subset(r, 0, len(l)-1)
		set := pickNotes(notesOf(l), subset(r, 0, len(notesOf(l))-1))
		wantErr(t, "Explains", upkeep.Explains(l, failed, set), explains(l, failed, set))
		got, e := upkeep.Least(l, failed)
		if e != api.OK || !equalSets(got, smallest(l, failed)) {
			t.Fatal(l, failed, got, e, smallest(l, failed))
		}
		sizes[len(got[0])]++
		for n, a := range got {
			wantErr(t, "Explains", upkeep.Explains(l, failed, a), api.OK)
			for i, b := range got {
				if i != n && isSubset(a, b) {
					t.Fatal(l, failed, a, "is a part of", b)
				}
			}
		}
		var alone []int
		for _, note := range notesOf(l) {
			if explains(l, failed, []int{note}) == api.OK {
				alone = append(alone, note)
			}
		}
		suspects, e := upkeep.Suspects(l, failed)
		wantList(t, "suspects", suspects, e, alone...)
	}
	for size := range 6 {
		if sizes[size] < 20 {
			t.Error("too few explanations with", size, "notes:", sizes)
		}
	}
}

func pickNotes(notes, numbers []int) []int {
	var picked []int
	for _, n := range numbers {
		picked = append(picked, notes[n])
	}
	return picked
}

// P7.10: a single wrong string is singled out by tests that single out every string.
func TestTheWrongString(t *testing.T) {
	r := dice()
	checked := 0
	for range 500 {
		l := randomTests(r, from(r, 3, 10), from(r, 2, 14))
		if is, _, _ := upkeep.SinglesOut(l); !is {
			continue
		}
		for _, note := range notesOf(l) {
			failed, _ := upkeep.Signature(l, note)
			suspects, e := upkeep.Suspects(l, failed)
			wantList(t, "suspects", suspects, e, note)
			if least, e := upkeep.Least(l, failed); e != api.OK || !equalSets(least, [][]int{{note}}) {
				t.Fatal(l, note, least, e)
			}
			checked++
		}
	}
	if checked < 500 {
		t.Error("too few:", checked)
	}
}

// P7.4: errors, and the limit of notes.
func TestErrorsOfExplanations(t *testing.T) {
	check := func(what string, l []api.BeatTest, failed []int, want api.Errno) {
		t.Helper()
		wantErr(t, what+", Explains", upkeep.Explains(l, failed, []int{99}), want)
		least, e := upkeep.Least(l, failed)
		if wantErr(t, what+", Least", e, want); len(least) > 0 {
			t.Error(what, least)
		}
		suspects, e := upkeep.Suspects(l, failed)
		if wantErr(t, what+", Suspects", e, want); len(suspects) > 0 {
			t.Error(what, suspects)
		}
	}
	for want, l := range badTests() {
		check("bad tests", l, []int{-1}, want)
	}
	for n, want := range map[int]api.Errno{-1: api.ErrMissing, 3: api.ErrMissing, 60: api.ErrMissing} {
		check("no test", three(), []int{n}, want)
		check("no test behind others", three(), []int{2, 1, n}, want)
	}
	for _, n := range extremes {
		if n < 0 || n > 2 {
			check("no test", three(), []int{n}, api.ErrMissing)
		}
	}
	check("descending tests", three(), []int{2, 1}, api.ErrOrder)
	check("a test twice", three(), []int{2, 2}, api.ErrOrder)
	for _, c := range []struct {
		what   string
		l      []api.BeatTest
		failed []int
		want   api.Errno
	}{
		{"12 notes", chain(11), []int{0}, api.OK},
		{"13 notes", chain(12), []int{0}, api.ErrLarge},
		{"13 notes though nothing failed", chain(12), nil, api.ErrLarge},
		{"a wrong list ahead of 13 notes", chain(12), []int{1, 0}, api.ErrOrder},
		{"60 tests of 12 notes", randomTests(dice(), 12, 60), []int{3, 59}, api.OK},
	} {
		least, e := upkeep.Least(c.l, c.failed)
		if wantErr(t, c.what, e, c.want); (len(least) == 0) != (e != api.OK) {
			t.Error(c.what, least)
		}
	}
	suspects, e := upkeep.Suspects(chain(60), []int{59})
	wantList(t, "61 notes", suspects, e, 60)
}
