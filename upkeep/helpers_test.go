package upkeep_test

import (
	"math"
	"math/rand/v2"
	"slices"
	"testing"

	"agraffe/api"
	"agraffe/temper"
	"agraffe/upkeep"
)

// extremes are the numbers at which arithmetic with ints goes wrong first.
var extremes = []int{math.MinInt, math.MinInt + 1, -1000000001, -1000000000, -1, 0, 1, 2, 36, 60, 87, 88, 1000, 1001, 100000, 100001, 200001, 20000001, 1000000001, math.MaxInt - 1, math.MaxInt}

// dice are the same ones in each run.
func dice() *rand.Rand {
	return rand.New(rand.NewPCG(15, 16))
}

func from(r *rand.Rand, low, high int) int {
	return low + r.IntN(high-low+1)
}

func beat(low, high, p, q int) api.BeatTest {
	return api.BeatTest{Low: low, High: high, P: p, Q: q}
}

func span(low, high int) api.Range {
	return api.Range{Lo: low, Hi: high}
}

func count(b api.BeatTest, low, high int) api.BeatCount {
	return api.BeatCount{Test: b, Heard: span(low, high)}
}

func sounding(note, low, high int) api.Sounding {
	return api.Sounding{Note: note, Freq: span(low, high)}
}

func overpull(from, to, perMille int) api.Overpull {
	return api.Overpull{From: from, To: to, PerMille: perMille}
}

func torque(day, force int) api.Torque {
	return api.Torque{Day: day, Force: force}
}

func reading(day, humidity int) api.Climate {
	return api.Climate{Day: day, Humidity: humidity}
}

func drift(start, memory, rate, tolerance int) api.Drift {
	return api.Drift{Start: start, Memory: memory, Rate: rate, Tolerance: tolerance}
}

// three is the tests of the chapter's examples.
func three() []api.BeatTest {
	return []api.BeatTest{beat(36, 43, 3, 2), beat(36, 40, 5, 4), beat(40, 43, 6, 5)}
}

// joined are tests of pairs of notes; tests of the same pair have different partials.
func joined(pairs ...[2]int) []api.BeatTest {
	var l []api.BeatTest
	for _, pair := range pairs {
		same := 0
		for _, b := range l {
			if b.Low == pair[0] && b.High == pair[1] {
				same++
			}
		}
		l = append(l, beat(pair[0], pair[1], partials[same], 1))
	}
	return l
}

var partials = []int{1, 2, 3, 4, 5, 6, 8, 9, 10, 12, 15, 16}

// chain is so many tests, each of a note and the next one.
func chain(tests int) []api.BeatTest {
	var l []api.BeatTest
	for note := range tests {
		l = append(l, beat(note, note+1, 1, 1))
	}
	return l
}

// randomTests are of few notes, so that many of them have notes in common.
func randomTests(r *rand.Rand, notes, tests int) []api.BeatTest {
	low := from(r, 0, 88-notes)
	var pairs [][2]int
	for range tests {
		a := from(r, low, low+notes-2)
		pairs = append(pairs, [2]int{a, from(r, a+1, low+notes-1)})
	}
	return joined(pairs...)
}

// subset is the numbers from low to high, each with the same chance.
func subset(r *rand.Rand, low, high int) []int {
	var l []int
	for n := low; n <= high; n++ {
		if r.IntN(2) == 0 {
			l = append(l, n)
		}
	}
	return l
}

func named(t *testing.T, name string) api.Temperament {
	t.Helper()
	x, e := temper.Named(name)
	if e != api.OK {
		t.Fatalf("%s: error %d", name, e)
	}
	return x
}

func wantErr(t *testing.T, what string, got, want api.Errno) {
	t.Helper()
	if got != want {
		t.Errorf("%s: error %d, want %d", what, got, want)
	}
}

func wantList(t *testing.T, what string, got []int, e api.Errno, want ...int) {
	t.Helper()
	if e != api.OK || !slices.Equal(got, want) {
		t.Errorf("%s: %v, error %d, want %v", what, got, e, want)
	}
}

func wantNumber(t *testing.T, what string, got int, e api.Errno, want int) {
	t.Helper()
	if e != api.OK || got != want {
		t.Errorf("%s: %d, error %d, want %d", what, got, e, want)
	}
}

func isSubset(part, whole []int) bool {
	return !slices.ContainsFunc(part, func(n int) bool { return !slices.Contains(whole, n) })
}

// badTests have each an error of its own.
func badTests() map[api.Errno][]api.BeatTest {
	return map[api.Errno][]api.BeatTest{
		api.ErrLarge:  chain(61),
		api.ErrRange:  append(three(), beat(1, 88, 1, 1)),
		api.ErrOrder:  append(three(), beat(5, 5, 1, 1)),
		api.ErrKind:   append(three(), beat(1, 5, 7, 1)),
		api.ErrExists: append(three(), three()[0]),
	}
}

// countsOf are what is heard of tests: nothing.
func countsOf(l []api.BeatTest) []api.BeatCount {
	var counts []api.BeatCount
	for _, b := range l {
		counts = append(counts, count(b, 0, 0))
	}
	return counts
}

func badClimates() map[api.Errno][]api.Climate {
	return map[api.Errno][]api.Climate{
		api.ErrNone:  nil,
		api.ErrLarge: readings(201),
		api.ErrRange: {reading(0, 1), reading(1, 1001)},
		api.ErrOrder: {reading(5, 1), reading(5, 1)},
	}
}

// readings are one on each day.
func readings(days int) []api.Climate {
	var l []api.Climate
	for day := range days {
		l = append(l, reading(day, 500))
	}
	return l
}

// randomClimate has its readings early enough to matter.
func randomClimate(r *rand.Rand) []api.Climate {
	var l []api.Climate
	day := from(r, 0, 20)
	for range from(r, 1, 12) {
		l = append(l, reading(day, from(r, 0, 1000)))
		day += from(r, 1, 30)
	}
	return l
}

func randomDrift(r *rand.Rand) api.Drift {
	return drift(from(r, 0, 1000), from(r, 1, []int{3, 30, 365}[r.IntN(3)]), from(r, 0, 1000), from(r, 0, 1+r.IntN(300000)))
}

func moisture(t *testing.T, d api.Drift, l []api.Climate, day int) int {
	t.Helper()
	m, e := upkeep.Moisture(d, l, day)
	wantErr(t, "Moisture", e, api.OK)
	return m
}
