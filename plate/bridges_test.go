package plate_test

import (
	"math"
	"math/big"
	"math/rand/v2"
	"slices"
	"testing"

	"agraffe/api"
	"agraffe/plate"
)

// example is the bearing of the chapter's examples.
func example() api.Bearing {
	return api.Bearing{Bridge: 100, Ahead: 10000, Behind: 5000}
}

// P3.5: the error of a bearing, which all functions with bearings return ahead of that of the tension.
func TestBearingErrors(t *testing.T) {
	for _, c := range []struct {
		what string
		b    api.Bearing
		want api.Errno
	}{
		{"the greatest one", api.Bearing{Front: -10000, Bridge: 10000, Back: -10000, Ahead: 300000, Behind: 300000}, api.OK},
		{"the shortest one", api.Bearing{Front: 10000, Bridge: -10000, Back: 10000, Ahead: 1, Behind: 1}, api.OK},
		{"Front", api.Bearing{Front: -10001, Ahead: 1, Behind: 1}, api.ErrRange},
		{"Bridge", api.Bearing{Bridge: 10001, Ahead: 1, Behind: 1}, api.ErrRange},
		{"Back", api.Bearing{Back: 10001, Ahead: 1, Behind: 1}, api.ErrRange},
		{"no Ahead", api.Bearing{Ahead: 0, Behind: 1}, api.ErrRange},
		{"no Behind", api.Bearing{Ahead: 1, Behind: 0}, api.ErrRange},
		{"a great Ahead", api.Bearing{Ahead: 300001, Behind: 1}, api.ErrRange},
		{"a great Behind", api.Bearing{Ahead: 1, Behind: 300001}, api.ErrRange},
		{"the least int", api.Bearing{Front: math.MinInt, Ahead: 1, Behind: 1}, api.ErrRange},
	} {
		wantErr(t, "CheckBearing: "+c.what, plate.CheckBearing(c.b), c.want)
		x, e := plate.DownBearing(c.b, 0)
		wantErr(t, "DownBearing: "+c.what, e, c.want)
		load, e := plate.BridgeLoad([]api.Bearing{example(), c.b}, []api.Range{span(1, 1), span(1, 1)})
		wantErr(t, "BridgeLoad: "+c.what, e, c.want)
		n, e := plate.LeastHeight(c.b, 0, 0)
		wantErr(t, "LeastHeight: "+c.what, e, c.want)
		if c.want != api.OK && (x != api.Frac{} || load != api.Range{} || n != 0) {
			t.Errorf("%s: %v, %v, %d beside an error", c.what, x, load, n)
		}
	}
}

// P3.5: the errors of tensions and of what is wanted.
func TestTensionErrors(t *testing.T) {
	for _, n := range []int{-1, 10000001, math.MinInt, math.MaxInt} {
		x, e := plate.DownBearing(example(), n)
		wantErr(t, "DownBearing", e, api.ErrRange)
		height, e := plate.LeastHeight(example(), n, 0)
		wantErr(t, "LeastHeight", e, api.ErrRange)
		if x != (api.Frac{}) || height != 0 {
			t.Errorf("the tension %d: %v, %d beside an error", n, x, height)
		}
	}
	for _, want := range []int{-10000001, 10000001, math.MinInt, math.MaxInt} {
		n, e := plate.LeastHeight(example(), 10000000, want)
		wantErr(t, "LeastHeight of much", e, api.ErrRange)
		if n != 0 {
			t.Errorf("%d: %d beside an error", want, n)
		}
	}
	for _, c := range []struct {
		tension api.Range
		want    api.Errno
	}{
		{span(0, 10000000), api.OK}, {span(0, 0), api.OK}, {span(-1, 5), api.ErrRange}, {span(5, 4), api.ErrRange},
		{span(0, 10000001), api.ErrRange}, {span(math.MinInt, math.MaxInt), api.ErrRange},
	} {
		load, e := plate.BridgeLoad([]api.Bearing{example(), example()}, []api.Range{span(1, 1), c.tension})
		wantErr(t, "BridgeLoad", e, c.want)
		if e != api.OK && load != (api.Range{}) {
			t.Errorf("%v: %v beside an error", c.tension, load)
		}
	}
}

// P3.5: the errors of lists, ahead of those of their elements.
func TestBridgeLoadShapes(t *testing.T) {
	for _, c := range []struct {
		bearings, tensions int
		want               api.Errno
	}{{0, 0, api.OK}, {300, 300, api.OK}, {301, 301, api.ErrLarge}, {301, 0, api.ErrLarge}, {2, 1, api.ErrShape}, {1, 2, api.ErrShape}, {0, 1, api.ErrShape}, {300, 0, api.ErrShape}} {
		right := slices.Repeat([]api.Bearing{example()}, c.bearings)
		for _, l := range [][]api.Bearing{right, make([]api.Bearing, c.bearings)} {
			load, e := plate.BridgeLoad(l, make([]api.Range, c.tensions))
			want := c.want
			if want == api.OK && len(l) > 0 && l[0].Ahead == 0 {
				want = api.ErrRange
			}
			wantErr(t, "BridgeLoad", e, want)
			if load != (api.Range{}) {
				t.Errorf("%d and %d: %v", c.bearings, c.tensions, load)
			}
		}
	}
}

// P3.5: the example, and down-bearings of both signs.
func TestDownBearing(t *testing.T) {
	for _, c := range []struct {
		what    string
		b       api.Bearing
		tension int
		want    api.Frac
	}{
		{"the example", example(), 70000, frac(2100, 1)},
		{"no tension", example(), 0, frac(0, 1)},
		{"a straight string", api.Bearing{Front: 5, Bridge: 5, Back: 5, Ahead: 3, Behind: 7}, 100, frac(0, 1)},
		{"pressed up", api.Bearing{Front: 3, Ahead: 7, Behind: 7}, 2, frac(-6, 7)},
		{"pressed up less than it sinks", api.Bearing{Bridge: 1, Back: 4, Ahead: 5, Behind: 10}, 100, frac(-10, 1)},
		{"a straight slope", api.Bearing{Front: -3, Bridge: 0, Back: 6, Ahead: 10, Behind: 20}, 1000, frac(0, 1)},
		{"two denominators", api.Bearing{Bridge: 1, Ahead: 3, Behind: 5}, 1, frac(8, 15)},
		{"lowest terms", api.Bearing{Bridge: 1, Ahead: 6, Behind: 10}, 5, frac(4, 3)},
		{"the greatest one", api.Bearing{Front: -10000, Bridge: 10000, Back: -10000, Ahead: 1, Behind: 1}, 10000000, frac(400000000000, 1)},
		{"the greatest denominator", api.Bearing{Front: -1, Ahead: 300000, Behind: 299999}, 7, frac(7, 300000)},
	} {
		if x, e := plate.DownBearing(c.b, c.tension); x != c.want || e != api.OK {
			t.Errorf("%s: %v, error %d, want %v", c.what, x, e, c.want)
		}
	}
}

// bearingOf is the chapter's down-bearing, with big numbers.
func bearingOf(b api.Bearing, tension int) *big.Rat {
	ahead := quotient(whole(b.Bridge-b.Front), whole(b.Ahead))
	behind := quotient(whole(b.Bridge-b.Back), whole(b.Behind))
	return product(whole(tension), sum(ahead, behind))
}

func randomBearing(r *rand.Rand) api.Bearing {
	height, length := []int{3, 200, 10000}[r.IntN(3)], []int{10, 1000, 300000}[r.IntN(3)]
	return api.Bearing{Front: from(r, -height, height), Bridge: from(r, -height, height), Back: from(r, -height, height), Ahead: from(r, 1, length), Behind: from(r, 1, length)}
}

// P3.5: the down-bearing and the sum of ranges, with big numbers.
func TestBridgeLoadsAgainstBig(t *testing.T) {
	r := dice()
	for range 500 {
		l := make([]api.Bearing, r.IntN(20))
		tensions := make([]api.Range, len(l))
		want := span(0, 0)
		for i := range l {
			l[i] = randomBearing(r)
			tensions[i] = span(from(r, 0, 5000000), 0)
			tensions[i].Hi = tensions[i].Lo + r.IntN(3)*r.IntN(2500000)
			low, high := bearingOf(l[i], tensions[i].Lo), bearingOf(l[i], tensions[i].Hi)
			if x, e := plate.DownBearing(l[i], tensions[i].Lo); e != api.OK || !isExactly(x, low) {
				t.Fatal(l[i], tensions[i], x, e)
			}
			want.Lo += min(roundedDown(low), roundedDown(high))
			want.Hi += max(roundedUp(low), roundedUp(high))
		}
		if x, e := plate.BridgeLoad(l, tensions); x != want || e != api.OK {
			t.Fatal(l, tensions, x, e, want)
		}
	}
}

// P3.5: each string is rounded on its own; a negative down-bearing is least with the greatest tension.
func TestBridgeLoad(t *testing.T) {
	low := api.Bearing{Front: 3, Ahead: 7, Behind: 7}
	for _, c := range []struct {
		what     string
		l        []api.Bearing
		tensions []api.Range
		want     api.Range
	}{
		{"none", nil, nil, span(0, 0)},
		{"the example", []api.Bearing{example()}, []api.Range{span(70000, 70000)}, span(2100, 2100)},
		{"with one that is pressed up", []api.Bearing{example(), low}, []api.Range{span(70000, 70000), span(1, 2)}, span(2099, 2100)},
		{"pressed up", []api.Bearing{low}, []api.Range{span(7, 14)}, span(-6, -3)},
		{"rounded twice", []api.Bearing{low, low}, []api.Range{span(1, 1), span(1, 1)}, span(-2, 0)},
		{"the greatest ones", slices.Repeat([]api.Bearing{{Front: -10000, Bridge: 10000, Back: -10000, Ahead: 1, Behind: 1}}, 300), slices.Repeat([]api.Range{span(0, 10000000)}, 300), span(0, 120000000000000)},
	} {
		if x, e := plate.BridgeLoad(c.l, c.tensions); x != c.want || e != api.OK {
			t.Errorf("%s: %v, error %d, want %v", c.what, x, e, c.want)
		}
	}
}

// P3.5: the example, both ends of the heights, and what none of them reaches.
func TestLeastHeight(t *testing.T) {
	flat := api.Bearing{Ahead: 1, Behind: 1}
	for _, c := range []struct {
		what          string
		b             api.Bearing
		tension, want int
		height        int
		err           api.Errno
	}{
		{"the example", example(), 70000, 1050, 50, api.OK},
		{"a little more", example(), 70000, 1051, 51, api.OK},
		{"a little less", example(), 70000, 1049, 50, api.OK},
		{"as much as there is", example(), 70000, 2100, 100, api.OK},
		{"nothing", example(), 70000, 0, 0, api.OK},
		{"less than nothing", example(), 70000, -1050, -50, api.OK},
		{"the greatest height", flat, 1, 20000, 10000, api.OK},
		{"more than the greatest height gives", flat, 1, 20001, 0, api.ErrNone},
		{"the least height", flat, 1, -20000, -10000, api.OK},
		{"less than the least height gives", flat, 1, -20001, -10000, api.OK},
		{"just more than the least height gives", flat, 1, -19999, -9999, api.OK},
		{"a tension of 0 for nothing", example(), 0, 0, -10000, api.OK},
		{"a tension of 0 for less", example(), 0, -10000000, -10000, api.OK},
		{"a tension of 0 for more", example(), 0, 1, 0, api.ErrNone},
		{"the greatest numbers", api.Bearing{Ahead: 300000, Behind: 300000}, 10000000, 666666, 10000, api.OK},
		{"just too much", api.Bearing{Ahead: 300000, Behind: 300000}, 10000000, 666667, 0, api.ErrNone},
		{"far too much", api.Bearing{Front: 10000, Back: 10000, Ahead: 300000, Behind: 299999}, 10000000, 10000000, 0, api.ErrNone},
	} {
		if n, e := plate.LeastHeight(c.b, c.tension, c.want); n != c.height || e != c.err {
			t.Errorf("%s: %d, error %d, want %d, error %d", c.what, n, e, c.height, c.err)
		}
	}
}

// P3.5 and P3.9: the height gives enough, one less does not; the bridge that there is does not matter; a higher bridge never has less.
func TestLeastHeightAtRandom(t *testing.T) {
	r := dice()
	found, none := 0, 0
	for range 2000 {
		b := randomBearing(r)
		tension, want := from(r, 0, 1000), from(r, -2000, 2000)
		height, e := plate.LeastHeight(b, tension, want)
		other := b
		other.Bridge = from(r, -10000, 10000)
		if again, e2 := plate.LeastHeight(other, tension, want); again != height || e2 != e {
			t.Fatal(b, other, height, again)
		}
		gives := func(n int) bool {
			b.Bridge = n
			return bearingOf(b, tension).Cmp(whole(want)) >= 0
		}
		if e == api.ErrNone && !gives(10000) && height == 0 {
			none++
		} else if e == api.OK && gives(height) && (height == -10000 || !gives(height-1)) {
			found++
		} else {
			t.Fatal(b, tension, want, height, e)
		}
		low, high := b, b
		low.Bridge = from(r, -10000, 9999)
		high.Bridge = from(r, low.Bridge, 10000)
		less, _ := plate.DownBearing(low, tension)
		more, _ := plate.DownBearing(high, tension)
		if ratOf(less).Cmp(ratOf(more)) > 0 {
			t.Fatal(low, high, tension, less, more)
		}
	}
	if found < 100 || none < 10 {
		t.Error(found, "found,", none, "none")
	}
}
