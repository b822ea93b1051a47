package upkeep_test

import (
	"slices"
	"testing"

	"agraffe/api"
	"agraffe/upkeep"
)

// notesOf returns the notes of tests as the chapter defines them.
func notesOf(l []api.BeatTest) []int {
	var notes []int
	for note := range 88 {
		if len(signatureOf(l, note)) > 0 {
			notes = append(notes, note)
		}
	}
	return notes
}

func signatureOf(l []api.BeatTest, note int) []int {
	var signature []int
	for n, b := range l {
		if b.Low == note || b.High == note {
			signature = append(signature, n)
		}
	}
	return signature
}

// firstAlike returns the first two notes with the same signature.
func firstAlike(l []api.BeatTest) ([2]int, bool) {
	for _, a := range notesOf(l) {
		for _, b := range notesOf(l) {
			if a < b && slices.Equal(signatureOf(l, a), signatureOf(l, b)) {
				return [2]int{a, b}, true
			}
		}
	}
	return [2]int{}, false
}

// pick returns tests by their numbers.
func pick(l []api.BeatTest, numbers []int) []api.BeatTest {
	var picked []api.BeatTest
	for _, n := range numbers {
		picked = append(picked, l[n])
	}
	return picked
}

func thinnedOf(l []api.BeatTest) []int {
	var left []int
	for n := range l {
		left = append(left, n)
	}
	for n := len(l) - 1; n >= 0; n-- {
		fewer := slices.DeleteFunc(slices.Clone(left), func(x int) bool { return x == n })
		if enough(l, fewer) {
			left = fewer
		}
	}
	return left
}

// enough tells whether some of the tests have the same notes and single out every string.
func enough(l []api.BeatTest, some []int) bool {
	_, found := firstAlike(pick(l, some))
	return !found && slices.Equal(notesOf(pick(l, some)), notesOf(l))
}

// P7.3: the examples.
func TestKnownSignatures(t *testing.T) {
	notes, e := upkeep.Notes(three())
	wantList(t, "notes", notes, e, 36, 40, 43)
	for note, want := range map[int][]int{36: {0, 1}, 40: {1, 2}, 43: {0, 2}} {
		signature, e := upkeep.Signature(three(), note)
		wantList(t, "signature", signature, e, want...)
	}
	left, e := upkeep.Thinned(three())
	wantList(t, "thinned", left, e, 0, 1)
	notes, e = upkeep.Notes(chain(60))
	if e != api.OK || len(notes) != 61 || notes[0] != 0 || notes[60] != 60 {
		t.Error("61 notes:", notes, e)
	}
	notes, e = upkeep.Notes([]api.BeatTest{beat(86, 87, 1, 1), beat(0, 87, 1, 1)})
	wantList(t, "the ends", notes, e, 0, 86, 87)
	signature, e := upkeep.Signature(chain(60), 60)
	wantList(t, "the last test", signature, e, 59)
	signature, e = upkeep.Signature(chain(60), 32)
	wantList(t, "in the midst", signature, e, 31, 32)
	for _, c := range []struct {
		what string
		l    []api.BeatTest
		is   bool
		pair [2]int
	}{
		{"nothing", nil, true, [2]int{}},
		{"the example", three(), true, [2]int{}},
		{"without the last test", three()[:2], true, [2]int{}},
		{"one test", three()[:1], false, [2]int{36, 43}},
		{"one test twice over", joined([2]int{36, 43}, [2]int{36, 43}), false, [2]int{36, 43}},
		{"the notes at the ends", joined([2]int{0, 87}), false, [2]int{0, 87}},
		{"60 tests", chain(60), true, [2]int{}},
		{"two pairs", joined([2]int{10, 11}, [2]int{3, 4}), false, [2]int{3, 4}},
		{"two pairs in a tangle", joined([2]int{10, 30}, [2]int{11, 12}), false, [2]int{10, 30}},
		{"a pair behind others", append(joined([2]int{50, 51}), three()...), false, [2]int{50, 51}},
	} {
		if is, pair, e := upkeep.SinglesOut(c.l); is != c.is || pair != c.pair || e != api.OK {
			t.Errorf("%s: %t, %v, error %d", c.what, is, pair, e)
		}
		_, e := upkeep.Thinned(c.l)
		wantErr(t, c.what+", thinned", e, map[bool]api.Errno{true: api.OK, false: api.ErrState}[c.is])
	}
}

// P7.3: a test stays if without it a note would be in no test, or two notes would be alike.
func TestKnownThinned(t *testing.T) {
	a, b, c := [2]int{1, 2}, [2]int{2, 3}, [2]int{1, 3}
	for _, x := range []struct {
		what string
		l    []api.BeatTest
		want []int
	}{
		{"nothing", nil, nil},
		{"a chain", chain(60)[:2], []int{0, 1}},
		{"a long chain", joined([2]int{1, 2}, [2]int{2, 3}, [2]int{3, 4}), []int{0, 1, 2}},
		{"a test that is there again", joined(a, b, a), []int{0, 1}},
		{"tests that are there again", joined(a, a, b, b), []int{0, 2}},
		{"a ring", joined(a, b, c), []int{0, 1}},
		{"a ring of four", joined(a, b, [2]int{3, 4}, [2]int{1, 4}), []int{0, 1, 2}},
		{"a note that hangs on it", joined(a, b, c, [2]int{3, 4}), []int{0, 1, 3}},
	} {
		left, e := upkeep.Thinned(x.l)
		wantList(t, x.what, left, e, x.want...)
	}
	left, e := upkeep.Thinned(chain(60))
	wantList(t, "60 tests", left, e, thinnedOf(chain(60))...)
}

// P7.3: what the definitions say, of random tests.
func TestSignatures(t *testing.T) {
	r := dice()
	seen := map[bool]int{}
	for range 2000 {
		l := randomTests(r, from(r, 2, 9), from(r, 0, 12))
		notes, e := upkeep.Notes(l)
		wantList(t, "notes", notes, e, notesOf(l)...)
		for _, note := range notes {
			signature, e := upkeep.Signature(l, note)
			wantList(t, "signature", signature, e, signatureOf(l, note)...)
			if len(signature) == 0 {
				t.Fatal("an empty signature:", l, note)
			}
		}
		is, pair, e := upkeep.SinglesOut(l)
		want, found := firstAlike(l)
		if is == found || pair != want || e != api.OK {
			t.Fatal(l, is, pair, e, want)
		}
		left, e := upkeep.Thinned(l)
		if seen[is]++; !is {
			if e != api.ErrState || len(left) > 0 {
				t.Fatal(l, left, e)
			}
			continue
		}
		wantList(t, "thinned", left, e, thinnedOf(l)...)
		checkThinned(t, l, left)
	}
	if seen[true] < 200 || seen[false] < 200 {
		t.Error("too few:", seen)
	}
}

// checkThinned: P7.11, what is left singles out every string, and none of it can be left out.
func checkThinned(t *testing.T, l []api.BeatTest, left []int) {
	t.Helper()
	if is, _, e := upkeep.SinglesOut(pick(l, left)); !is || e != api.OK {
		t.Fatal(l, left, is, e)
	}
	for i := range left {
		if fewer := slices.Delete(slices.Clone(left), i, i+1); enough(l, fewer) {
			t.Fatal(l, left, fewer)
		}
	}
}

// P7.3: errors.
func TestErrorsOfSignatures(t *testing.T) {
	for want, l := range badTests() {
		notes, e := upkeep.Notes(l)
		if wantErr(t, "Notes", e, want); len(notes) > 0 {
			t.Error("Notes:", notes)
		}
		signature, e := upkeep.Signature(l, -1)
		if wantErr(t, "Signature", e, want); len(signature) > 0 {
			t.Error("Signature:", signature)
		}
		is, pair, e := upkeep.SinglesOut(l)
		if wantErr(t, "SinglesOut", e, want); is || pair != [2]int{} {
			t.Error("SinglesOut:", is, pair)
		}
		left, e := upkeep.Thinned(l)
		if wantErr(t, "Thinned", e, want); len(left) > 0 {
			t.Error("Thinned:", left)
		}
	}
	for note := -1; note <= 88; note++ {
		want := api.ErrMissing
		switch {
		case note < 0 || note > 87:
			want = api.ErrRange
		case note == 36 || note == 40 || note == 43:
			want = api.OK
		}
		signature, e := upkeep.Signature(three(), note)
		if wantErr(t, "Signature", e, want); e != api.OK && len(signature) > 0 {
			t.Error("Signature:", note, signature)
		}
	}
	_, e := upkeep.Signature(nil, 0)
	wantErr(t, "Signature of no tests", e, api.ErrMissing)
}
