package restore_test

import (
	"math/rand/v2"
	"slices"
	"testing"

	"agraffe/api"
	"agraffe/restore"
)

func place(name string, ranges ...api.Range) api.WantedPart {
	return api.WantedPart{Name: name, Ranges: ranges}
}

func offer(name string, sizes ...int) api.OfferedPart {
	return api.OfferedPart{Name: name, Sizes: sizes}
}

func span(low, high int) api.Range {
	return api.Range{Lo: low, Hi: high}
}

// bushings and offers are the places and parts of the chapter's examples.
func bushings() []api.WantedPart {
	return []api.WantedPart{place("a", span(10, 12)), place("b", span(11, 20))}
}
func offers() []api.OfferedPart {
	return []api.OfferedPart{offer("x", 11), offer("y", 10)}
}

// places and sized are so many, all with a single dimension that is the same.
func places(count int) []api.WantedPart {
	var l []api.WantedPart
	for _, name := range numbered("w", count) {
		l = append(l, place(name, span(7, 7)))
	}
	return l
}
func sized(count int) []api.OfferedPart {
	var l []api.OfferedPart
	for _, name := range numbered("o", count) {
		l = append(l, offer(name, 7))
	}
	return l
}

// P8.6: the errors of places and of parts, in order.
func TestPlacesAndOffers(t *testing.T) {
	seven := slices.Repeat([]api.Range{span(0, 1)}, 7)
	for _, c := range []struct {
		what string
		w    []api.WantedPart
		o    []api.OfferedPart
		want api.Errno
	}{
		{"the example", bushings(), offers(), api.OK},
		{"nothing", nil, nil, api.OK},
		{"40 of each", places(40), sized(40), api.OK},
		{"41 places", places(41), nil, api.ErrLarge},
		{"41 parts", nil, sized(41), api.ErrLarge},
		{"41 places without names", make([]api.WantedPart, 41), nil, api.ErrLarge},
		{"41 parts without names", nil, make([]api.OfferedPart, 41), api.ErrLarge},
		{"a place without a name", []api.WantedPart{place("")}, nil, api.ErrName},
		{"a part without a name", nil, []api.OfferedPart{offer("")}, api.ErrName},
		{"a place twice", append(bushings(), place("a")), nil, api.ErrExists},
		{"a part twice", nil, append(offers(), offer("x")), api.ErrExists},
		{"a place with the name of a part", places(1), []api.OfferedPart{offer("w0", 7)}, api.OK},
		{"a place without ranges", []api.WantedPart{place("a"), place("")}, nil, api.ErrShape},
		{"a part without sizes", nil, []api.OfferedPart{offer("a"), offer("")}, api.ErrShape},
		{"6 dimensions", []api.WantedPart{place("a", seven[:6]...)}, []api.OfferedPart{offer("a", make([]int, 6)...)}, api.OK},
		{"7 ranges", []api.WantedPart{place("a", seven...)}, nil, api.ErrShape},
		{"7 sizes", nil, []api.OfferedPart{offer("a", make([]int, 7)...)}, api.ErrShape},
		{"7 wrong ranges", []api.WantedPart{place("a", slices.Repeat([]api.Range{span(2, 1)}, 7)...)}, nil, api.ErrShape},
		{"the whole range", []api.WantedPart{place("a", span(0, 1000000), span(0, 0), span(1000000, 1000000))}, []api.OfferedPart{offer("a", 0, 1000000)}, api.OK},
		{"a range from below 0", []api.WantedPart{place("a", span(0, 1), span(-1, 1))}, nil, api.ErrRange},
		{"a range to above", []api.WantedPart{place("a", span(0, 1), span(0, 1000001))}, nil, api.ErrRange},
		{"a range backwards", []api.WantedPart{place("a", span(2, 1))}, nil, api.ErrRange},
		{"a range ahead of a later place", []api.WantedPart{place("a", span(2, 1)), place("")}, nil, api.ErrRange},
		{"a size below 0", nil, []api.OfferedPart{offer("a", 0, -1)}, api.ErrRange},
		{"a size above", nil, []api.OfferedPart{offer("a", 0, 1000001)}, api.ErrRange},
		{"a size ahead of a later part", nil, []api.OfferedPart{offer("a", -1), offer("")}, api.ErrRange},
		{"places ahead of parts", []api.WantedPart{place("a")}, sized(41), api.ErrShape},
	} {
		match, cover, e := restore.Match(c.w, c.o)
		if wantOnly(t, c.what, match, e, c.want); e != api.OK && len(cover[0])+len(cover[1]) > 0 {
			t.Error(c.what, cover)
		}
		count, e := restore.CheckMatch(c.w, c.o, slices.Repeat([]int{-1}, len(c.w)))
		if wantErr(t, c.what, e, c.want); count != 0 {
			t.Error(c.what, count)
		}
		if _, e := restore.CheckMatch(c.w, c.o, make([]int, 50)); c.want != api.OK {
			wantErr(t, c.what+", ahead of the shape of a match", e, c.want)
		}
		if count, e := restore.CheckCover(c.w, c.o, [2][]int{{99, 98}, {-1}}); c.want != api.OK && (count != 0 || e != c.want) {
			t.Errorf("%s, ahead of the cover: %d, error %d", c.what, count, e)
		}
	}
}

// P8.6: parts that fit a place.
func TestFits(t *testing.T) {
	two := place("a", span(10, 12), span(0, 5))
	for _, c := range []struct {
		what string
		w    api.WantedPart
		o    api.OfferedPart
		fits bool
		want api.Errno
	}{
		{"least sizes", two, offer("x", 10, 0), true, api.OK},
		{"greatest sizes", two, offer("x", 12, 5), true, api.OK},
		{"the first one below", two, offer("x", 9, 3), false, api.OK},
		{"the first one above", two, offer("x", 13, 3), false, api.OK},
		{"the second one above", two, offer("x", 11, 6), false, api.OK},
		{"sizes in another order", two, offer("x", 3, 11), false, api.OK},
		{"fewer dimensions", two, offer("x", 11), false, api.OK},
		{"more dimensions", two, offer("x", 11, 3, 3), false, api.OK},
		{"the same name", two, offer("a", 11, 3), true, api.OK},
		{"a wrong place", place("", span(1, 1)), offer("x"), false, api.ErrName},
		{"a place without ranges", place("a"), offer(""), false, api.ErrShape},
		{"a wrong range", place("a", span(2, 1)), offer(""), false, api.ErrRange},
		{"a part without a name", two, offer("", 11, 3), false, api.ErrName},
		{"a part without sizes", two, offer("x"), false, api.ErrShape},
		{"a wrong size", two, offer("x", 11, -1), false, api.ErrRange},
	} {
		if fits, e := restore.Fits(c.w, c.o); fits != c.fits || e != c.want {
			t.Errorf("%s: %t, error %d", c.what, fits, e)
		}
	}
}

// P8.6: right and wrong matches.
func TestCheckMatch(t *testing.T) {
	w := append(bushings(), place("c", span(10, 11)))
	for _, c := range []struct {
		m     []int
		count int
		want  api.Errno
	}{
		{[]int{1, 0, -1}, 2, api.OK},
		{[]int{-1, -1, -1}, 0, api.OK},
		{[]int{-1, 0, 1}, 2, api.OK},
		{[]int{0, -1, 1}, 2, api.OK},
		{nil, 0, api.ErrShape},
		{[]int{1, 0}, 0, api.ErrShape},
		{[]int{1, 0, -1, -1}, 0, api.ErrShape},
		{[]int{9, 9, 9, 9}, 0, api.ErrShape},
		{[]int{1, 0, 2}, 0, api.ErrMissing},
		{[]int{1, 0, -2}, 0, api.ErrMissing},
		{[]int{1, 1, 2}, 0, api.ErrKind},
		{[]int{2, 1, -1}, 0, api.ErrMissing},
		{[]int{0, 1, -1}, 0, api.ErrKind},
		{[]int{1, 1, -1}, 0, api.ErrKind},
		{[]int{0, 0, 2}, 0, api.ErrBusy},
		{[]int{0, -1, 0}, 0, api.ErrBusy},
	} {
		if count, e := restore.CheckMatch(w, offers(), c.m); count != c.count || e != c.want {
			t.Errorf("%v: %d, error %d, want %d, error %d", c.m, count, e, c.count, c.want)
		}
	}
}

// P8.6: covers, and what is none.
func TestCheckCover(t *testing.T) {
	for _, c := range []struct {
		places, parts []int
		count         int
		want          api.Errno
	}{
		{[]int{0, 1}, nil, 2, api.OK},
		{nil, []int{0, 1}, 2, api.OK},
		{[]int{0}, []int{0}, 2, api.OK},
		{[]int{0, 1}, []int{0, 1}, 4, api.OK},
		{nil, nil, 0, api.ErrGap},
		{[]int{0}, nil, 0, api.ErrGap},
		{nil, []int{0}, 0, api.ErrGap},
		{[]int{1}, []int{0}, 0, api.ErrGap},
		{[]int{1}, []int{1}, 0, api.ErrGap},
		{[]int{2}, nil, 0, api.ErrMissing},
		{[]int{-1, 0, 1}, nil, 0, api.ErrMissing},
		{nil, []int{2}, 0, api.ErrMissing},
		{[]int{1, 0}, []int{-1}, 0, api.ErrMissing},
		{[]int{1, 0}, nil, 0, api.ErrOrder},
		{[]int{0, 0}, nil, 0, api.ErrOrder},
		{nil, []int{1, 0}, 0, api.ErrOrder},
		{[]int{0, 1}, []int{0, 0}, 0, api.ErrOrder},
	} {
		if count, e := restore.CheckCover(bushings(), offers(), [2][]int{c.places, c.parts}); count != c.count || e != c.want {
			t.Errorf("%v, %v: %d, error %d, want %d, error %d", c.places, c.parts, count, e, c.count, c.want)
		}
	}
	count, e := restore.CheckCover(places(2), []api.OfferedPart{offer("x", 8)}, [2][]int{})
	wantNumber(t, "nothing that fits", count, e, 0)
}

// wantMatch looks at a match and its cover, and returns how many parts it has.
func wantMatch(t *testing.T, w []api.WantedPart, o []api.OfferedPart) int {
	t.Helper()
	m, cover, e := restore.Match(w, o)
	wantErr(t, "Match", e, api.OK)
	count, e := restore.CheckMatch(w, o, m)
	wantErr(t, "CheckMatch", e, api.OK)
	size, e := restore.CheckCover(w, o, cover)
	if e != api.OK || size != count {
		t.Fatalf("%v, %v: %d by %v, but %d by %v, error %d", w, o, count, m, size, cover, e)
	}
	return count
}

// P8.6: matches of a known size, some of which have to move many parts.
func TestKnownMatches(t *testing.T) {
	m, _, e := restore.Match(bushings(), offers())
	wantList(t, "the example", m, e, 1, 0)
	wantMatch(t, bushings(), offers())
	m, _, e = restore.Match(places(2), []api.OfferedPart{offer("x", 8)})
	wantList(t, "nothing that fits", m, e, -1, -1)
	m, _, e = restore.Match(nil, offers())
	wantList(t, "no places", m, e)
	m, _, e = restore.Match(places(3), nil)
	wantList(t, "no parts", m, e, -1, -1, -1)
	for _, counts := range [][2]int{{40, 40}, {40, 7}, {7, 40}, {1, 1}} {
		if got := wantMatch(t, places(counts[0]), sized(counts[1])); got != min(counts[0], counts[1]) {
			t.Error(counts, got)
		}
	}
	// All places but the last one take two parts; the last one takes the part that the one before got first.
	w, o := places(40), sized(40)
	for n := range w {
		w[n].Ranges[0], o[n].Sizes[0] = span(2*n, 2*n+2), 2*n
	}
	w[39].Ranges[0] = span(0, 0)
	if got := wantMatch(t, w, o); got != 40 {
		t.Error("40 places in a row:", got)
	}
	w[38].Ranges[0] = span(0, 0)
	if got := wantMatch(t, w, o); got != 39 {
		t.Error("two places for one part:", got)
	}
}

// randomMarket has places and parts of one or two dimensions, so that some parts fit.
func randomMarket(r *rand.Rand, most, sizes int) ([]api.WantedPart, []api.OfferedPart) {
	w, o := places(from(r, 0, most)), sized(from(r, 0, most))
	for n := range w {
		w[n].Ranges = nil
		for range from(r, 1, 2) {
			low := from(r, 0, sizes)
			w[n].Ranges = append(w[n].Ranges, span(low, from(r, low, sizes)))
		}
	}
	for n := range o {
		o[n].Sizes = []int{from(r, 0, sizes)}
		if r.IntN(2) == 0 {
			o[n].Sizes = append(o[n].Sizes, from(r, 0, sizes))
		}
	}
	return w, o
}

func fitsIn(w api.WantedPart, o api.OfferedPart) bool {
	for n := range max(len(w.Ranges), len(o.Sizes)) {
		if n == len(w.Ranges) || n == len(o.Sizes) || o.Sizes[n] < w.Ranges[n].Lo || o.Sizes[n] > w.Ranges[n].Hi {
			return false
		}
	}
	return true
}

// mostParts tries each part, and none, for each place.
func mostParts(w []api.WantedPart, o []api.OfferedPart) int {
	if len(w) == 0 {
		return 0
	}
	most := mostParts(w[1:], o)
	for n := range o {
		if fitsIn(w[0], o[n]) {
			most = max(most, 1+mostParts(w[1:], slices.Delete(slices.Clone(o), n, n+1)))
		}
	}
	return most
}

// P8.6, P8.11: random matches; those of a few parts against all matches.
func TestMatches(t *testing.T) {
	r := dice()
	for range 300 {
		w, o := randomMarket(r, 5, 4)
		if got, want := wantMatch(t, w, o), mostParts(w, o); got != want {
			t.Fatal(w, o, got, want)
		}
		for _, x := range w {
			for _, y := range o {
				if fits, e := restore.Fits(x, y); fits != fitsIn(x, y) || e != api.OK {
					t.Fatal(x, y, fits, e)
				}
			}
		}
		gap := false
		cover := [2][]int{some(r, []int{0, 1, 2, 3, 4}[:len(w)]), some(r, []int{0, 1, 2, 3, 4}[:len(o)])}
		for a, x := range w {
			for b, y := range o {
				gap = gap || fitsIn(x, y) && !slices.Contains(cover[0], a) && !slices.Contains(cover[1], b)
			}
		}
		if count, e := restore.CheckCover(w, o, cover); gap != (e == api.ErrGap) || !gap && (e != api.OK || count != len(cover[0])+len(cover[1])) {
			t.Fatal(w, o, cover, count, e)
		}
	}
	for range 100 {
		w, o := randomMarket(r, 40, 30)
		wantMatch(t, w, o)
	}
}
